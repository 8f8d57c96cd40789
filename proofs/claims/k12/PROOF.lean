import PyProof.Rows.All
import Wide.All
import OpenK.AllK
import Wide.FinOn
import HandS.ForMost
import HandS.IsInst
import HandS.Style
import HandS.Wide
import PyProof.Rows.Digits
import KE.GoesEnum
import HandS.Zip
import HandS.TupAny
import HandS.Codes
import PyProof.ReprBulk
import PySem.Challenge.RW_serialhouse_k12_rules_of_any_value
set_option Elab.async false
set_option linter.all false
set_option maxRecDepth 100000
/-! Contracts of defs that know the guards: where no text of an object is being told, repr can be asked. -/
namespace SG
open PySem PySem.Spec PyProof.Rows L2

/-- a def's promise, kept wherever no guard stands -/
structure GFn (pr : Program) (wo : World) (K : PySem.W.Frag) (mg : Str → Option Value) (ba : Heap) (cx : CXT) (k : Nat) (f : Addr) (fd : FuncData) (ps : List Str) (sp : Sp) : Prop where
  len : ∀ xs Hx R Ex, sp xs Hx R Ex → xs.length = ps.length
  go : ∀ (B : Around) (fr : List Env) (st : Shared) (Hx : Hp) (ar : Args) (vals : List Value) (xs : List V) (R : VK) (Ex : XK),
    B.guards = some [] → Room k B → Env0 pr wo K mg ba B fr st Hx → BindsTo st fd ar (ps.zip vals) → Vals xs vals → sp xs Hx R Ex →
    codeAny (model pr wo) B (.call (.ref f) ar) (CR cx fr pr wo Hx st R Ex) st

variable {pr : Program} {wo : World} {K : PySem.W.Frag} {mg : Str → Option Value} {ba : Heap} {cx : CXT}

theorem GFn.mono {j k : Nat} {f : Addr} {fd : FuncData} {ps : List Str} {sp : Sp} (F : GFn pr wo K mg ba cx j f fd ps sp) (h : j ≤ k) :
    GFn pr wo K mg ba cx k f fd ps sp :=
  ⟨F.len, fun B fr st Hx ar vals xs R Ex g hr => F.go B fr st Hx ar vals xs R Ex g (hr.mono h)⟩
theorem GFn.imp {k : Nat} {f : Addr} {fd : FuncData} {ps : List Str} {sp sq : Sp} (F : GFn pr wo K mg ba cx k f fd ps sp)
    (h : ∀ xs Hx R Ex, sq xs Hx R Ex → sp xs Hx R Ex) : GFn pr wo K mg ba cx k f fd ps sq :=
  ⟨fun xs Hx R Ex q => F.len xs Hx R Ex (h _ _ _ _ q), fun B fr st Hx ar vals xs R Ex g hr e b v q => F.go B fr st Hx ar vals xs R Ex g hr e b v (h _ _ _ _ q)⟩
/-- what is kept anywhere is kept here -/
theorem GFn.of {k : Nat} {f : Addr} {fd : FuncData} {ps : List Str} {sp : Sp} (F : FnOk pr wo K mg ba cx k f fd ps sp) : GFn pr wo K mg ba cx k f fd ps sp :=
  ⟨F.len, fun B fr st Hx ar vals xs R Ex _ hr => F.run B fr st Hx ar vals xs R Ex hr⟩

/-- a def by its body -/
theorem gfn_of {k : Nat} {f : Addr} {nm qn : Str} {pa : Arguments} {bd : List Stmt} {sc : Scope} {dV kV dc pm cdv ct oc : Value} {an od : Option Addr} {osl : Array (Option Value)} {N ps : List Str} {sp : Sp}
    (lk : K.lookup f = some ⟨oc, od, .func (PySem.W.fnOf nm qn pa bd sc dV kV dc pm an cdv ct), osl⟩) (hcd : PySem.W.codeIn K cdv qn = true) (S : FnScope N ps sc)
    (len : ∀ xs Hx R Ex, sp xs Hx R Ex → xs.length = ps.length)
    (hb : ∀ (B : Around) (fr : List Env) (st : Shared) (Hx : Hp) (xs : List V) (R : VK) (Ex : XK), B.guards = some [] → Room k (B.deeper (envOfC qn sc st.heap.objs.size f cdv)) → sp xs Hx R Ex →
      ∃ t, PSs (cxOf cx pr wo K mg ba N qn sc f cdv B fr st Hx Ex) bd t ∧ t { nx := fun _ H2 => R .non H2, rt := R } (start N xs) Hx) :
    GFn pr wo K mg ba cx (k + 1) f (PySem.W.fnOf nm qn pa bd sc dV kV dc pm an cdv ct) ps sp := by
  refine ⟨len, fun B fr st Hx ar vals xs R Ex g hr e0 hbd rv hsp => ?_⟩
  have KX : K.In st.heap := e0.mod.kin.keeps fun b o e => (e0.bs b o e).1
  have lim : st.heap.NoLimit := e0.mod.nolimit.keeps fun b o e => (e0.bs b o e).1
  have hkn : ∀ y ∈ ps.zip vals, sc.names.lookup y.1 = some .local ∨ (sc.names.lookup y.1 = some .cell ∧ ((cellsFrom (st.heap.objs.size + 1) sc.names []).lookup y.1).isSome = true) := by
    rintro ⟨n, v⟩ hy
    rcases S.par n (List.of_mem_zip hy).1 with q | q
    · exact .inl q
    · exact .inr ⟨q, PySem.W.cellsFrom_some _ _ _ (.inl q)⟩
  refine codeAny_call_function hr.depth (KX _ _ lk) rfl S.co S.gen rfl (PySem.W.codeRec_of KX hcd) (hbd _ _ _ _ ?_)
  refine wpAny_newFunctionEnv_cells S.kind hkn fun env he s1 x => ?_
  subst he
  refine ⟨lim.keeps x.toInCall.keep, codeAny_func ?_⟩
  obtain ⟨t, ht, hq⟩ := hb B fr st Hx xs R Ex g (hr.deeper _) hsp
  have I : Inv (cxOf cx pr wo K mg ba N qn sc f cdv B fr st Hx Ex) [] (start N xs) Hx s1 := inv_start S hr.hd e0 (len _ _ _ _ hsp) rv x
  refine wpAny_mono (ht.run [] s1 (start N xs) Hx _ I hq) (fun fl s2 hs => ?_) fun e s2 hs => hs
  have fin : ∀ {τ : L2.St} {H2 : Hp} {v : V} {u : Value}, Inv (cxOf cx pr wo K mg ba N qn sc f cdv B fr st Hx Ex) [] τ H2 s2 → RelV v u → R v H2 → CE fr pr wo Hx st R u s2 :=
    fun {τ H2 v u} J r1 q => ⟨v, H2, J.os, J.bare, J.base, J.hok, r1, q⟩
  cases fl with
  | ret u => obtain ⟨v, τ, H2, J, r1, q⟩ := hs; exact fin J r1 q
  | next => obtain ⟨τ, H2, J, q⟩ := hs; exact fin (v := V.non) (u := Value.none) J rfl q
  | brk => obtain ⟨_, _, _, q⟩ := hs; exact q.elim
  | cont => obtain ⟨_, _, _, q⟩ := hs; exact q.elim

theorem gfun_ok {x qn : Str} {s0 : Stmt} {f : Addr} {fd : FuncData} {N ps : List Str} {k : Nat} {sp : Sp} (F : Fun K x qn s0 f fd) (S : FnScope N ps (defScope s0)) (len : ∀ xs Hx R Ex, sp xs Hx R Ex → xs.length = ps.length)
    (hb : ∀ (cdv : Value) (B : Around) (fr : List Env) (st : Shared) (Hx : Hp) (xs : List V) (R : VK) (Ex : XK), (B.deeper (envOfC qn (defScope s0) st.heap.objs.size f cdv)).guards = some [] →
      Room k (B.deeper (envOfC qn (defScope s0) st.heap.objs.size f cdv)) → sp xs Hx R Ex →
      ∃ t, PSs (cxOf CX0 pr wo K mg ba N qn (defScope s0) f cdv B fr st Hx Ex).nox (defBody s0) t ∧ t { nx := fun _ H2 => R .non H2, rt := R } (start N xs) Hx) :
    GFn pr wo K mg ba CX0 (k + 1) f fd ps sp := by
  obtain ⟨oc, od, kV, dc, pm, an, cdv, ct, osl, rfl, lk, hcd⟩ := F.ex
  refine gfn_of lk hcd S len fun B fr st Hx xs R Ex g hr hsp => ?_
  obtain ⟨t, h, q⟩ := hb cdv B fr st Hx xs R Ex g hr hsp
  exact ⟨t, h.nox, q⟩

section
variable {X : Cx} {k : Nat} {f : Addr} {fd : FuncData} {ps ks : List Str} {sp : Sp} {dvs : List V} {ds : List Value} {Ex : XK} {x : Str} {p pos : Pos} {e : Expr} {es : List Expr} {kws : List Keyword} {t tk : TA}

theorem end_of {pins : List (Addr × Obj)} {σ : L2.St} {Hx : Hp} {st s2 : Shared} {R : VK} {r : Result} (hx : Passes cx X Ex) (I : Inv X pins σ Hx st) (q : CR cx X.stack X.prog X.w Hx st R Ex r s2) :
    (match r with | .ok (.ret u) => EP X pins σ R u s2 | .ok _ => False | .error e => X.xe e s2) := by
  cases r with
  | error e => exact hx pins σ Hx st e s2 I q
  | ok fl => cases fl <;> first | exact I.after q | exact False.elim q

theorem run_g {pins : List (Addr × Obj)} {σ : L2.St} {Hx : Hp} {st : Shared} {R : VK} {ar : Args} {vals : List Value} {xs : List V} (F : GFn X.prog X.w X.K X.mg X.base cx k f fd ps sp) (hg : X.A.guards = some []) (hr : Room k X.A) (hx : Passes cx X Ex)
    (I : Inv X pins σ Hx st) (hb : BindsTo st fd ar (ps.zip vals)) (r : Vals xs vals) (h : sp xs Hx R Ex) {us : List Value} {kw : List (Str × Value)} (ea : ar = ⟨us, kw⟩) : wpAny (model X.prog X.w) X.A (call (.ref f) us kw) (EP X pins σ R) X.xe st := by
  subst ea
  refine wpAny_call (codeAny_mono (F.go X.A X.stack st Hx _ vals xs R Ex hg hr I.env0 hb r h) fun r s2 hq => ?_)
  have z := end_of hx I hq
  cases r with
  | error e => exact z
  | ok fl => cases fl <;> exact z

/-- f(a, ..) -/
theorem pe_g (F : GFn X.prog X.w X.K X.mg X.base cx k f fd ps sp) (hgu : X.A.guards = some []) (hr : Room k X.A) (hg : Gl X x) (hm : X.mg x = some (.ref f)) (hk : PySem.W.keepIn X.K (.ref f) = true) (hb : Binds X.K fd ps ds) (hd : Vals dvs ds) (hx : Passes cx X Ex)
    (ha : PA X (e :: es) t) (hdb : (x == ("__debug__" : Str)) = false := by decide) (he : starEach (e :: es) X.env = (false, eval e X.env) :: starEach es X.env := by rfl) (hpl : (backTo pos (starEach es X.env)).any (·.1) = false := by rfl) :
    PE X (.Call (.Name x p) (e :: es) [] pos) (tCall sp dvs Ex t) := by
  refine ⟨fun pins st σ Hx R I h => wpAny_Call_Name_kw (ld_glob I hg hm ?_ hdb)⟩
  refine PySem.W.callWith_K (h₀ := X.base) I.ok.mod.kin hk (thn (ha.run pos pins st σ Hx _ I h) ?_) he hpl
  rintro us s1 ⟨vs, H1, I1, r, q⟩
  have r2 : Vals (vs ++ dvs) (us ++ ds) := r.append hd
  exact ⟨I1.kIn, run_g F hgu hr hx I1 (hb s1 us I1.kIn (by rw [← r2.length]; exact F.len _ _ _ _ q)) r2 q rfl⟩

/-- f(a, .., k = b, ..) -/
theorem pe_gK {g : List Value → List Value → List Value} {gV : List V → List V → List V} (F : GFn X.prog X.w X.K X.mg X.base cx k f fd ps sp) (hgu : X.A.guards = some []) (hr : Room k X.A) (hg : Gl X x) (hm : X.mg x = some (.ref f)) (hk : PySem.W.keepIn X.K (.ref f) = true)
    (hb : KBinds X.K fd ps ks g gV) (hx : Passes cx X Ex) (ha : PA X (e :: es) t) (hkw : PK X kws tk) (hall : (backToKw pos (keywordEach kws X.env)).all (·.1.isSome) = true := by rfl) (hks : (backToKw pos (keywordEach kws X.env)).filterMap (·.1) = ks := by rfl)
    (hdb : (x == ("__debug__" : Str)) = false := by decide) (he : starEach (e :: es) X.env = (false, eval e X.env) :: starEach es X.env := by rfl)
    (hpl : ((backTo pos (starEach (e :: es) X.env)).any (·.1) || (backToKw pos (keywordEach kws X.env)).any (·.1.isNone)) = false := by rfl) :
    PE X (.Call (.Name x p) (e :: es) kws pos) (tCallK sp gV Ex t tk) := by
  refine ⟨fun pins st σ Hx R I h => wpAny_Call_Name_kw (ld_glob I hg hm ?_ hdb)⟩
  refine PySem.W.callWith_KW (h₀ := X.base) I.ok.mod.kin hk hall (thn (ha.run pos pins st σ Hx _ I h) ?_) hpl he
  rintro us s1 ⟨vs, H1, I1, r, q⟩
  refine thn (hkw.run pos pins s1 σ H1 _ I1 q) ?_
  rintro ws s2 ⟨zs, H2, I2, rz, q2⟩
  refine ⟨I2.kIn, ?_⟩
  rw [hks]
  have r2 := hb.rel r rz
  exact run_g F hgu hr hx I2 (hb.to s2 us ws I2.kIn (by rw [← r2.length]; exact F.len _ _ _ _ q2)) r2 q2 rfl
/-- f(k = b, ..) -/
theorem pe_gK0 {g : List Value → List Value → List Value} {gV : List V → List V → List V} (F : GFn X.prog X.w X.K X.mg X.base cx k f fd ps sp) (hgu : X.A.guards = some []) (hr : Room k X.A) (hg : Gl X x) (hm : X.mg x = some (.ref f)) (hk : PySem.W.keepIn X.K (.ref f) = true)
    (hb : KBinds X.K fd ps ks g gV) (hx : Passes cx X Ex) (hkw : PK X kws tk) (hall : (backToKw pos (keywordEach kws X.env)).all (·.1.isSome) = true := by rfl) (hks : (backToKw pos (keywordEach kws X.env)).filterMap (·.1) = ks := by rfl)
    (hdb : (x == ("__debug__" : Str)) = false := by decide) (hpl : ((backTo pos (starEach [] X.env)).any (·.1) || (backToKw pos (keywordEach kws X.env)).any (·.1.isNone)) = false := by rfl) :
    PE X (.Call (.Name x p) [] kws pos) (tCallK sp gV Ex tNil tk) := by
  refine ⟨fun pins st σ Hx R I h => wpAny_Call_Name_kw (ld_glob I hg hm ?_ hdb)⟩
  refine PySem.W.callWith_KW0 (h₀ := X.base) I.ok.mod.kin hk hall (thn (hkw.run pos pins st σ Hx _ I h) ?_) hpl
  rintro ws s2 ⟨zs, H2, I2, rz, q2⟩
  refine ⟨I2.kIn, ?_⟩
  rw [hks]
  have r2 := hb.rel (Paired.nil : Vals [] []) rz
  exact run_g F hgu hr hx I2 (hb.to s2 [] ws I2.kIn (by rw [← r2.length]; exact F.len _ _ _ _ q2)) r2 q2 rfl
end

/-! ### the law's own call -/
theorem law_g {mb : Str → Option Value} {k : Nat} {fa a : Addr} {fd : FuncData} {x : Str} {sp : Sp} {s1 : Shared} {its : List Value} {ns : List Int}
    (KX : K.In s1.heap) (hmg : s1.heap.Ns mainGlobals mg) (hmb : s1.heap.Ns builtinsNs mb) (hbb : ∀ x : Str, x ≠ "__name__" → mb x = bootBuiltins x) (hlim : s1.heap.NoLimit) (hdig : s1.heap.NoDigits) (hgen : s1.gens = #[])
    (ha : s1.heap.get? a = some { cls := .type "list", data := .seq its.toArray }) (hi : IntsAre its ns) (hl : ns.length ≤ sizeLine) (hr : Room k callerA)
    (F : ∀ ba : Heap, K.In ba → ba.Ns mainGlobals mg → ba.NoDigits → GFn pr wo K mg ba CX0 k fa fd [x] sp) (hbi : ∀ (st : Shared) (u : Value), BindsTo st fd ⟨[u], []⟩ [(x, u)])
    (hsp : ∀ Hx : Hp, Only Hx → SqL K Hx a (ns.map V.int) → sp [.ref a] Hx (fun v _ => v = .bl true) E0) :
    codeAny (model pr wo) callerA (.call (.ref fa) ⟨[.ref a], []⟩) (fun r s2 => r = .ok (.ret (.bool true)) ∧ OldK s1.heap s2.heap ∧ s2.os = s1.os ∧ AllBare s2.gens) s1 := by
  have rv := vals_ints hi
  have main : ∀ Hx : Hp, Only Hx → SqL K Hx a (ns.map V.int) → HOk pr wo Hx s1.heap → (∀ b, Hx b ≠ none → b = a) → (Hx a ≠ none → K.lookup a = none) →
      codeAny (model pr wo) callerA (.call (.ref fa) ⟨[.ref a], []⟩) (fun r s2 => r = .ok (.ret (.bool true)) ∧ OldK s1.heap s2.heap ∧ s2.os = s1.os ∧ AllBare s2.gens) s1 := by
    intro Hx hO hS ok one free
    have isA : ∀ {b : Addr} {u : HO}, Hx b = some u → b = a := fun {b u} q => one b (by rw [q]; nofun)
    have hid : ∀ {b : Addr} {o : Obj}, s1.heap.get? b = some o → Hx b = none → (hidT s1.heap Hx).get? b = some o := fun e n => hidT_get e n
    have noD : ∀ {b : Addr} {o : Obj} {es : Array DictEntry} {ep : Nat}, s1.heap.get? b = some o → o.data = .dict es ep → Hx b = none := by
      intro b o es ep e d
      rcases q : Hx b with _ | u
      · rfl
      · rw [isA q, ha] at e
        cases e
        cases d
    have nsH : ∀ {b : Addr} {m : Str → Option Value}, s1.heap.Ns b m → (hidT s1.heap Hx).Ns b m := by
      rintro b m ⟨o, es, ep, e, d, r⟩
      exact ⟨o, es, ep, hid e (noD e d), d, r⟩
    have kin : K.In (hidT s1.heap Hx) := by
      intro b o e
      refine hid (KX b o e) ?_
      rcases q : Hx b with _ | u
      · rfl
      · have eb := isA q
        subst eb
        rw [free (by rw [q]; nofun)] at e
        cases e
    have hM : Mod K mg (hidT s1.heap Hx) := ⟨kin, nsH hmg, ⟨mb, nsH hmb, hbb⟩, by obtain ⟨mc, h1, h2⟩ := hlim; exact ⟨mc, nsH h1, h2⟩⟩
    have e0 : Env0 pr wo K mg (hidT s1.heap Hx) callerA [] s1 Hx := ⟨rfl, hM, fun b o e => of_hidT e, Nat.le_of_eq (hidT_size _ _), trivial, fun b hb => (nomatch hb), ok, .of_eq hgen⟩
    refine codeAny_mono ((F _ kin (nsH hmg) (by obtain ⟨mc, h1, h2⟩ := hdig; exact ⟨mc, nsH h1, h2⟩)).go callerA [] s1 Hx ⟨[.ref a], []⟩ [.ref a] [.ref a] _ _ rfl hr e0 (hbi s1 (.ref a)) (.cons rfl .nil) (hsp Hx hO hS)) fun r s2 h => ?_
    rcases r with e | fl
    · exact False.elim h
    · cases fl with
      | next => exact False.elim h
      | brk => exact False.elim h
      | cont => exact False.elim h
      | ret u =>
        obtain ⟨v, H2, os, bare, un, ok2, r2, q⟩ := h
        obtain rfl : v = .bl true := q
        obtain rfl : u = Value.bool true := r2
        refine ⟨rfl, OldK.of_keep fun b o e => ?_, os, bare⟩
        rcases q : Hx b with _ | u
        · exact un.keep b o e q (fun z => nomatch z) (fun z => nomatch z)
        · rcases hO b with z | ⟨ob, xs, z⟩
          · rw [q] at z; cases z
          · obtain ⟨e1, _⟩ := ok b _ z
            obtain ⟨e2, _⟩ := ok2 b _ (un.frzs b ob _ z)
            rw [e] at e1
            cases e1
            exact e2
  rcases hk : K.lookup a with _ | o
  · refine main (fun b => if b = a then some (.frz { cls := .type "list", data := .seq its.toArray } (.lst (ns.map V.int))) else none) (fun b => ?_) (.inl (.inr ⟨_, if_pos rfl⟩)) (fun b u z => ?_) (fun b z => ?_) fun _ => hk
    · by_cases hb : b = a
      · exact .inr ⟨_, _, if_pos hb⟩
      · exact .inl (if_neg hb)
    · by_cases hb : b = a
      · cases (if_pos hb).symm.trans z
        subst hb
        exact ⟨ha, by rw [List.length_map]; exact hl, its, _, rv, ha⟩
      · cases (if_neg hb).symm.trans z
    · by_cases hb : b = a
      · exact hb
      · exact absurd (if_neg hb) z
  · have e := KX a o hk
    rw [ha] at e
    cases e
    exact main (fun _ => none) (fun _ => .inl rfl) (.inr ⟨_, its.toArray, _, hk, rfl, rfl, rfl, by rw [List.size_toArray, hi.length]; exact hl, by simpa using rv⟩) (fun b u z => nomatch z) (fun b z => absurd rfl z) fun z => absurd rfl z

theorem walk_g {l : PySem.W.OpenLaw} {n k : Nat} {q : Program} {loose : List Str} {XP : (Str → Option Value) → Heap → Prop} {YP : World → Heap → Prop} {d : DefRec} {K : Params → PySem.W.Frag} {sp : PySem.W.Frag → Sp} {x : Str}
    (hn : l.most = some n) (hn2 : n ≤ sizeLine) (hdf : d.params.defaults = []) (hr : Room k callerA)
    (hY : ∀ (wo : World) (h : Heap), YP wo h → (K wo.params).In h)
    (F : ∀ (wo : World) (mg : Str → Option Value) (fa : Addr) (h : Heap), (K wo.params).In h → h.Ns mainGlobals mg → mg d.name = some (.ref fa) →
      ∃ fd : FuncData, (∀ (st : Shared) (u : Value), BindsTo st fd ⟨[u], []⟩ [(x, u)]) ∧
        ∀ ba : Heap, (K wo.params).In ba → ba.Ns mainGlobals mg → ba.NoDigits → GFn l.prog wo (K wo.params) mg ba CX0 k fa fd [x] (sp (K wo.params)))
    (hsp : ∀ (K : PySem.W.Frag) (Hx : Hp) (a : Addr) (ns : List Int), ns.length ≤ n → Only Hx → SqL K Hx a (ns.map V.int) → sp K [.ref a] Hx (fun v _ => v = .bl true) E0) :
    PySem.W.WalkO q loose XP YP l.row.toRowW d [] (fun f vs => PySem.call f vs) := by
  refine Att.attach_call hn hdf fun w s₀ s₁ mg mb fa o pm cd doc a vs ns G Y ho hd hcd hmg hobj hints hlen hg => ?_
  have KX := hY w _ Y
  obtain ⟨fd, hb, hF⟩ := F w mg fa _ KX G.T.g hmg
  exact law_g KX G.T.g G.T.b G.T.builtins G.T.nolimit G.T.nodigits hg hobj hints (Nat.le_trans hlen hn2) hr hF hb fun Hx hO hS => hsp _ Hx a ns hlen hO hS
end SG

/-! repr of data at any depth, with ints of up to 4300 figures. -/
namespace SG
open PySem PySem.Spec PyProof.Rows L2

mutual
/-- data whose ints can be told -/
def tellable : PyData → Bool
  | .int i => decide (i.natAbs < 10 ^ 4300)
  | .list xs => tellableAll xs
  | .tuple xs => tellableAll xs
  | .dict _ => false
  | .none => true
  | .bool _ => true
  | .str _ => true
def tellableAll : List PyData → Bool
  | [] => true
  | x :: xs => tellable x && tellableAll xs
end

section
variable {pr : Program} {wo : World} {B : Around} {Er : Value → Shared → Prop} {st : Shared}
theorem int_told {i : Int} {t : Tok} {Q : Value → Shared → Prop} (hn : st.heap.NoDigits) (hi : i.natAbs < 10 ^ 4300) (hq : Q (.str (toString i) st.toks) { st with toks := st.toks + 1 }) :
    wpAny (model pr wo) B (call (.builtin "int.__repr__") [.int i t]) Q Er st := by
  refine wpAny_call_entry F.slot_int_repr (typeIs_int st i t) F.entry_int_repr ?_ (F.args_int_repr_1 _)
  unfold Builtin.«int.__repr__»
  show wpAny _ _ (Builtin.overDigitLimit? i >>= _) _ _ st
  exact wpAny_bind (overDigitLimit_any hn (fun h => wpAny_bind (wpAny_mkStr (wpAny_pure ⟨_, rfl, hq⟩) (int_text_fits10 h))) fun h => absurd hi (Nat.not_lt.mpr h))
theorem int_shown {i : Int} {t : Tok} {Q : Value → Shared → Prop} (hu : B.units < cLine) (hn : st.heap.NoDigits) (hi : i.natAbs < 10 ^ 4300) (hq : Q (.str (toString i) st.toks) { st with toks := st.toks + 1 }) :
    wpAny (model pr wo) B (pyReprObj (.int i t)) Q Er st :=
  wpAny_pyReprObj_slot hu (typeIs_int _ i t) F.slot_int_repr.toG (int_told hn hi ⟨_, _, rfl, hq⟩)
theorem int_repr {i : Int} {t : Tok} {Q : Value → Shared → Prop} (hu : B.units + 1 < cLine) (hn : st.heap.NoDigits) (hi : i.natAbs < 10 ^ 4300) (hq : Q (.str (toString i) st.toks) { st with toks := st.toks + 1 }) :
    wpAny (model pr wo) B (call (.builtin "repr") [.int i t]) Q Er st :=
  call_repr_slot hu (typeIs_int _ i t) F.slot_int_repr.toG (int_told hn hi ⟨_, _, rfl, hq⟩)
theorem reprK_int {as : List Addr} {h₀ : Heap} {i : Int} {t : Tok} (hn : h₀.NoDigits) (hi : i.natAbs < 10 ^ 4300) (d : Nat) : ReprK pr wo as h₀ d (.int i t) (toString i) := by
  intro base hb A g E s Q hg hcl hu hk hQ
  rw [pyReprUnder_leaf (v := .int i t) (by omega) (fun _ e => nomatch e)]
  unfold pyRepr
  exact wpAny_bind (int_shown (by omega) (hn.keeps hk) hi (wpAny_pure (hQ s.heap _ fun _ _ e => e)))
mutual
theorem reprK_any {h₀ : Heap} (hn : h₀.NoDigits) : ∀ {v : Value} {d : PyData} {as : List Addr}, Reads h₀ v d as → tellable d = true → d.shown.length ≤ sizeLine →
    ∃ bs, ReadAtMost h₀ d.depth bs ∧ ReprK pr wo bs h₀ d.depth v d.shown := by
  intro v d as r ht hz
  cases r with
  | none => exact ⟨[], (fun _ h => nomatch h), by simp only [PyData.shown]; exact .of_is ReprIs.none _ _ _⟩
  | bool b => exact ⟨[], (fun _ h => nomatch h), by simp only [PyData.shown]; exact .of_is (ReprIs.bool b) _ _ _⟩
  | str x t => exact ⟨[], (fun _ h => nomatch h), by simp only [PyData.shown] at hz ⊢; exact .of_is (ReprIs.str x t hz) _ _ _⟩
  | int i t => exact ⟨[], (fun _ h => nomatch h), by simp only [PyData.shown]; exact reprK_int hn (of_decide_eq_true (by simpa only [tellable] using ht)) _⟩
  | list q1 q2 q3 q4 =>
    rename_i a o arr n xs bs₀
    have hz2 : (listText (PyData.shownAll xs)).length ≤ sizeLine := by simpa only [PyData.shown] using hz
    obtain ⟨bs, rb, kb⟩ := reprAllK_any hn q4 (by simpa [tellable] using ht) fun t m => Nat.le_trans (listText_mem_le m) hz2
    have whole : Reads h₀ (.ref a) (.list xs) _ := .list q1 q2 q3 q4
    refine ⟨a :: bs, ReadAtMost.cons whole (by simp only [PyData.depth]; omega) rb, ?_⟩
    have notIn : a ∉ bs := not_mem_of_deeper whole (by simp only [PyData.depth]; omega) rb
    simp only [PyData.depth, PyData.shown]
    rcases arr with ⟨_ | ⟨y, l⟩⟩
    · cases (show ReadsAll h₀ [] xs _ from q4)
      simp only [PyData.shownAll, listText_nil]
      exact ReprK.listEmpty q1 q2 q3
    · exact ReprK.list q1 q2 q3 notIn (by simpa using kb.length_eq) fun i y e => kb.item i y (by simpa using e)
  | tuple q1 q2 q3 q4 =>
    rename_i a o arr n xs
    have hz2 : (tupleText (PyData.shownAll xs)).length ≤ sizeLine := by simpa only [PyData.shown] using hz
    obtain ⟨bs, rb, kb⟩ := reprAllK_any hn q4 (by simpa [tellable] using ht) fun t m => Nat.le_trans (tupleText_mem_le m) hz2
    have whole : Reads h₀ (.ref a) (.tuple xs) _ := .tuple q1 q2 q3 q4
    refine ⟨a :: bs, ReadAtMost.cons whole (by simp only [PyData.depth]; omega) rb, ?_⟩
    have notIn : a ∉ bs := not_mem_of_deeper whole (by simp only [PyData.depth]; omega) rb
    simp only [PyData.depth, PyData.shown]
    exact ReprK.tuple q1 q2 q3 notIn kb
  | dict => simp [tellable] at ht
theorem reprAllK_any {h₀ : Heap} (hn : h₀.NoDigits) : ∀ {vs : List Value} {ds : List PyData} {as : List Addr}, ReadsAll h₀ vs ds as → tellableAll ds = true → (∀ t ∈ PyData.shownAll ds, t.length ≤ sizeLine) →
    ∃ bs, ReadAtMost h₀ (PyData.depthAll ds) bs ∧ ReprAllK pr wo bs h₀ (PyData.depthAll ds) vs (PyData.shownAll ds) := by
  intro vs ds as r ht hz
  cases r with
  | nil => exact ⟨[], (fun _ h => nomatch h), by simp only [PyData.shownAll]; exact .nil⟩
  | cons q1 q2 =>
    rename_i v vs d ds as₁ as₂
    have ht2 : tellable d = true ∧ tellableAll ds = true := by simpa [tellableAll] using ht
    obtain ⟨c1, rc1, k1⟩ := reprK_any hn q1 ht2.1 (hz _ (by simp only [PyData.shownAll]; exact List.mem_cons_self))
    obtain ⟨c2, rc2, k2⟩ := reprAllK_any hn q2 ht2.2 fun t m => hz t (by simp only [PyData.shownAll]; exact List.mem_cons_of_mem _ m)
    refine ⟨c1 ++ c2, (rc1.mono ?_).append (rc2.mono ?_), ?_⟩
    · simp only [PyData.depthAll]; exact Nat.le_max_left _ _
    · simp only [PyData.depthAll]; exact Nat.le_max_right _ _
    · simp only [PyData.depthAll, PyData.shownAll]
      exact .cons ((k1.more fun b m => List.mem_append_left _ m).level_le (Nat.le_max_left _ _)) (k2.more_le (fun b m => List.mem_append_right _ m) (Nat.le_max_right _ _))
end
/-- repr of what is no leaf -/
theorem repr_ref {h₀ : Heap} {a : Addr} {d : PyData} {as : List Addr} {Q : Value → Shared → Prop} (hn : h₀.NoDigits) (r : Reads h₀ (.ref a) d as) (ht : tellable d = true) (hz : d.shown.length ≤ sizeLine)
    (hg : B.guards = some []) (hu : B.units + (d.depth + 1) < cLine) (hk : ∀ b o, h₀.get? b = some o → st.heap.get? b = some o)
    (hQ : ∀ h2 u tk, (∀ b o, st.heap.get? b = some o → h2.get? b = some o) → Q (.str d.shown u) { st with heap := h2, toks := tk }) :
    wpAny (model pr wo) B (call (.builtin "repr") [.ref a]) Q Er st := by
  cases r with
  | list q1 q2 q3 q4 =>
    rename_i o arr n xs bs₀
    have whole : Reads h₀ (.ref a) (.list xs) _ := .list q1 q2 q3 q4
    simp only [PyData.depth] at hu
    simp only [PyData.shown] at hQ hz
    obtain ⟨bs, rb, kb⟩ := reprAllK_any (pr := pr) (wo := wo) hn q4 (by simpa [tellable] using ht) fun t m => Nat.le_trans (listText_mem_le m) hz
    have notIn : a ∉ bs := not_mem_of_deeper whole (by simp only [PyData.depth]; omega) rb
    refine call_repr_slot (by omega) ⟨o, hk _ _ q1, q2⟩ F.slot_list_repr.toG ?_
    rcases arr with ⟨_ | ⟨y, l⟩⟩
    · cases (show ReadsAll h₀ [] xs _ from q4)
      simp only [PyData.shownAll, listText_nil] at hQ
      exact call_list_repr_empty ⟨o, hk _ _ q1, q2⟩ (hk _ _ q1) q3 ⟨_, _, rfl, hQ st.heap _ _ fun _ _ e => e⟩
    · exact call_list_reprK q1 q2 q3 notIn (by simpa using kb.length_eq) (fun i y e => kb.item i y (by simpa using e)) hg (fun b _ => Clear.nil b) (by show B.units + 1 + _ < _; omega) hk (fun h2 u tk q => ⟨_, _, rfl, hQ h2 u tk q⟩) hz
  | tuple q1 q2 q3 q4 =>
    rename_i o arr n xs
    have whole : Reads h₀ (.ref a) (.tuple xs) _ := .tuple q1 q2 q3 q4
    simp only [PyData.depth] at hu
    simp only [PyData.shown] at hQ hz
    obtain ⟨bs, rb, kb⟩ := reprAllK_any (pr := pr) (wo := wo) hn q4 (by simpa [tellable] using ht) fun t m => Nat.le_trans (tupleText_mem_le m) hz
    have notIn : a ∉ bs := not_mem_of_deeper whole (by simp only [PyData.depth]; omega) rb
    refine call_repr_slot (by omega) ⟨o, hk _ _ q1, q2⟩ F.slot_tuple_repr ?_
    exact call_tuple_reprK q1 q2 q3 notIn kb hg (fun b _ => Clear.nil b) (by show B.units + 1 + _ < _; omega) hk (fun h2 u tk q => ⟨_, _, rfl, hQ h2 u tk q⟩) hz
  | dict => simp [tellable] at ht
/-- repr of the empty dict -/
theorem repr_dict0 {a : Addr} {o : Obj} {n : Nat} {Q : Value → Shared → Prop} (q1 : st.heap.get? a = some o) (q2 : o.cls = .type "dict") (q3 : o.data = .dict #[] n) (hs : (a == sysModules) = false)
    (hg : B.guards = some []) (hu : B.units + 2 < cLine)
    (hQ : ∀ h2 u tk, (∀ b o, st.heap.get? b = some o → h2.get? b = some o) → Q (.str "{}" u) { st with heap := h2, toks := tk }) :
    wpAny (model pr wo) B (call (.builtin "repr") [.ref a]) Q Er st := by
  have r : Reads st.heap (.ref a) (.dict []) ([a] ++ []) := .dict (as := []) (bs := []) q1 q2 q3 .nil .nil
  refine repr_of_reads' (d := .dict []) r rfl (fun _ m => ?_) hg (by show B.units + (PyData.depth (.dict []) + 1) < _; simp only [PyData.depth, PyData.depthKv]; omega) (fun _ _ e => e) ?_ (by decide +kernel)
  · have e : sysModules = a := by simpa using m
    rw [e] at hs
    simp at hs
  · have e : PyData.shown (.dict []) = "{}" := by decide +kernel
    rw [e]
    exact hQ
end

section
variable {X : Cx}
/-- no limit of its own was put to the figures of ints -/
theorem digs {pins : List (Addr × Obj)} {σ : L2.St} {Hx : Hp} {st : Shared} (hn : X.base.NoDigits) (I : Inv X pins σ Hx st) : st.heap.NoDigits := hn.keeps I.bk
def rRepr (K : PySem.W.Frag) : List V → Hp → VK → Prop := fun xs Hx R => ∃ x, xs = [x] ∧
  ((∃ d, Dp K Hx x d ∧ tellable d = true ∧ d.depth ≤ 60 ∧ d.shown.length ≤ sizeLine ∧ R (.str d.shown) Hx) ∨ (∃ a, x = .ref a ∧ Hx a = some (.dK []) ∧ R (.str "{}") Hx))
theorem call_reprG (hn : X.base.NoDigits) (hg : X.A.guards = some []) {k : Nat} (hr : Room k X.A) : CallR X (.builtin "repr") (rRepr X.K) := by
  intro pins st σ Hx xs us R I rv h
  obtain ⟨x, rfl, h⟩ := h
  obtain ⟨u, rfl, rx⟩ : ∃ u, us = [u] ∧ RelV x u := by
    cases rv with
    | cons a b => cases b; exact ⟨_, rfl, a⟩
  have hu := hr.units
  rcases h with ⟨d, hd, ht, hdep, hz, q⟩ | ⟨a, rfl, ha, q⟩
  · cases x with
    | ref a =>
      obtain ⟨as, r⟩ := Dp.reads I d (.ref a) u hd rx
      obtain rfl : u = Value.ref a := rx
      exact repr_ref (digs hn I) r ht hz hg (by omega) (fun _ _ e => e) fun h2 u tk hk => ⟨.str _, Hx, I.kept (t' := tk) hk, ⟨_, rfl⟩, q⟩
    | int i =>
      obtain ⟨t, rfl⟩ := rx
      cases hd
      simp only [PyData.shown] at q
      exact int_repr (by omega) (digs hn I) (of_decide_eq_true (by simpa only [tellable] using ht)) ⟨.str _, Hx, I.tok _, ⟨_, rfl⟩, q⟩
    | str y =>
      obtain ⟨t, rfl⟩ := rx
      cases hd
      simp only [PyData.shown] at q hz
      exact PySem.P.repr_of_str ⟨.str _, Hx, I.tok _, ⟨_, rfl⟩, q⟩ hz
    | bl b =>
      obtain rfl : u = Value.bool b := rx
      cases hd
      simp only [PyData.shown] at q
      exact PySem.P.repr_of_bool ⟨.str _, Hx, I.tok _, ⟨_, rfl⟩, q⟩
    | non =>
      obtain rfl : u = Value.none := rx
      cases hd
      simp only [PyData.shown] at q
      exact PySem.P.repr_of_none ⟨.str _, Hx, I.tok _, ⟨_, rfl⟩, q⟩
    | byt b => cases hd
    | flt b => cases hd
    | ty b => cases hd
  · obtain rfl : u = Value.ref a := rx
    obtain ⟨_, hs, vs, kv, o, es, ep, e1, e2, e3, e4, e5, _⟩ := I.hok a _ ha
    cases kv
    have e6 : es = #[] := by
      cases es with
      | mk l => cases l with
        | nil => rfl
        | cons y l => cases e5
    subst e6
    exact repr_dict0 e1 e2.1 e3 hs hg (by omega) fun h2 u tk hk => ⟨.str _, Hx, I.kept (t' := tk) hk, ⟨_, rfl⟩, q⟩
end
end SG

/-! enumerate of a tuple. -/
namespace SG
open PySem PySem.Spec PyProof.Rows L2

set_option maxHeartbeats 1000000 in
theorem meets_enum1 {v : Value} {o : Obj} {Ho : Heap → Prop} (B : Begins v o Ho) :
    Meets (Builtin.«enumerate.__new__» ⟨[.type "enumerate", v], []⟩) (fun _ R st => Ho st.heap ∧
      R (.ok (.ret (.ref (st.heap.push o).objs.size))) { st with heap := (st.heap.push o).push { cls := .type "enumerate", data := .fields #[.none, .bool false, .ref st.heap.objs.size, rawInt 0, .none, .none] } }) :=
  .of_wp fun prog w A R st h => by
    obtain ⟨hp, g, d, tk, os⟩ := st
    obtain ⟨h1, h⟩ := h
    have hsub := sub_enumerate
    have it1 : ∀ {A' : Around} {E : Value → Shared → Prop} {Q : Value → Shared → Prop}, Q (.ref hp.objs.size) ⟨hp.push o, g, d, tk, os⟩ → wpAny (model prog w) A' (pyIter v) Q E ⟨hp, g, d, tk, os⟩ :=
      fun q => B.iter prog w _ _ ⟨hp, g, d, tk, os⟩ _ h1 q
    wp_walk using it1
    refine wpAny_stack_any fun stk => wpAny_pure ?_
    split
    · rename_i c _ _ _ _ _
      cases (c == Value.type "enumerate")
      · wp_walk using it1
        exact ⟨_, rfl, h⟩
      · wp_walk using it1
        exact ⟨_, rfl, h⟩
    · wp_walk using it1
      exact ⟨_, rfl, h⟩
section
variable {prog : Program} {w : World} {A : Around} {E : Value → Shared → Prop} {st : Shared}
theorem enum1_begins {v : Value} {o : Obj} {Ho : Heap → Prop} {Q : Value → Shared → Prop} (B : Begins v o Ho) (h1 : Ho st.heap)
    (h : ∀ h2, IsEnum h2 (st.heap.objs.size + 1) st.heap.objs.size 0 .none → h2.get? st.heap.objs.size = some o → h2.objs.size = st.heap.objs.size + 2 →
      (∀ b u, st.heap.get? b = some u → h2.get? b = some u) → Q (.ref (st.heap.objs.size + 1)) { st with heap := h2 }) :
    wpAny (model prog w) A (call (.type "enumerate") [v]) Q E st := by
  refine callType_new F.called_enumerate (by decide) (F.typeCall_enumerate_1 _) (F.newCall_enumerate_1 _) (fun obj => F.args_object_init_2 obj _) F.entry_enumerate_new (meets_enum1 B) ⟨h1, ?_⟩
  have hz : (st.heap.push o).objs.size = st.heap.objs.size + 1 := Heap.size_push ..
  show _ ∧ _
  rw [hz]
  have he : IsEnum ((st.heap.push o).push { cls := .type "enumerate", data := .fields #[.none, .bool false, .ref st.heap.objs.size, rawInt 0, .none, .none] }) (st.heap.objs.size + 1) st.heap.objs.size 0 .none := by
    have z := Heap.get?_push_size (st.heap.push o) (o := { cls := .type "enumerate", data := .fields #[.none, .bool false, .ref st.heap.objs.size, rawInt 0, .none, .none] }) rfl
    rw [hz] at z
    exact z
  exact ⟨⟨_, he, rfl⟩, h _ he (Heap.get?_push_of_some _ (Heap.get?_push_size _ B.free)) (by rw [Heap.size_push, hz]) fun b u x => Heap.get?_push_of_some _ (Heap.get?_push_of_some _ x)⟩
end

/-- the tuple at a, each item in a new pair -/
def IteT (K : PySem.W.Frag) (a : Addr) : It :=
  ⟨fun i Hx => ∃ (xs : List V) (x : V), SqT K Hx a xs ∧ xs[i]? = some x, fun i Hx v H2 => ∃ T x, v = .ref T ∧ Hx T = none ∧ H2 = upd Hx T (.tup [.int (i : Nat), x]) ∧ ∀ xs, SqT K Hx a xs → xs[i]? = some x, fun i Hx => ∃ xs : List V, SqT K Hx a xs ∧ xs.length ≤ i⟩
theorem turn_enumT {P : Program} {w : World} {K : PySem.W.Frag} {elts : List Expr} {kk : Nat} {tpos : Pos} (a e it : Addr) :
    Turn P w K (.Tuple elts kk tpos) (IteT K a) [e, it] e (fun i h => (∃ old, IsEnum h e it ((i : Nat) : Int) old) ∧ h.IsTupleIter it a i ∧ e ≠ it ∧ a ≠ it ∧ a ≠ e) where
  mem := by simp
  obj := fun i h q b hb => by
    obtain ⟨⟨old, he⟩, ⟨o, ho, hc, hd⟩, _⟩ := q
    rcases (show b = e ∨ b = it by simpa using hb) with z | z
    · rw [z]; exact ⟨_, he, fun v q => nomatch q⟩
    · rw [z]; exact ⟨o, ho, fun v q => by rw [hd] at q; cases q⟩
  keep := fun i h h2 q k => by
    obtain ⟨⟨old, he⟩, hi, hne⟩ := q
    exact ⟨⟨old, k e (by simp) _ he⟩, hi.at fun o q => k it (by simp) o q, hne⟩
  item := by
    intro X hP hw hK hc i pins st σ Hx E I hf q hg
    subst hP hw hK
    obtain ⟨⟨old, he⟩, hit, hne, n1, n2⟩ := q
    obtain ⟨xs, x, hq, hx⟩ := hg
    obtain ⟨its, rv, p, hz⟩ := I.tuple hq
    obtain ⟨u, hu, ru⟩ := rv.get hx
    have hel : e < st.heap.objs.size := Heap.lt_size he
    have hil : it < st.heap.objs.size := by obtain ⟨_, z, _⟩ := hit; exact Heap.lt_size z
    have hi : i < its.toArray.size := by
      have z := (List.getElem?_eq_some_iff.mp hu).1
      simpa using z
    refine wpAny_pyNext_enum_itemD (Draws.tuple (prog := X.prog) (w := X.w) (A := X.A.in1) (I.ok.hd hc) it a n1 its.toArray) he ⟨hit, p⟩ hi hne (by simp [hne, n2.symm]) fun y h1 tk hy ho hs1 hT hsz hk => ?_
    obtain rfl : y = u := by
      rw [show its.toArray[i]? = some u by simpa using hu] at hy
      exact (Option.some.inj hy).symm
    refine ⟨_, rfl, wpAny_letOwnedTupleGo_enum (s := { st with heap := h1, toks := tk + 1 }) ho fun h2 he2 sb => ?_⟩
    have hT2 : h2.get? st.heap.objs.size = some { cls := .type "tuple", data := .seq #[.int i tk, y] } := (sb.2 _ (Nat.ne_of_gt hel)).trans hT
    have new : ObjOk X.prog X.w (upd Hx st.heap.objs.size (.tup [.int (i : Nat), x])) h2 st.heap.objs.size (.tup [.int (i : Nat), x]) :=
      ⟨by show 2 ≤ sizeLine; decide, [.int i tk, y], .cons ⟨_, rfl⟩ (.cons ru .nil), ⟨_, hT2, rfl, _, rfl⟩⟩
    have I1 : L2.Inv X pins σ (upd Hx st.heap.objs.size (.tup [.int (i : Nat), x])) { st with heap := h2, toks := tk + 1 } :=
      I.turnedNew (ch := [e, it]) (fun b ob hb z => (sb.2 b (fun z => hb (by simp [z]))).trans (hk b ob (fun z => hb (by simp [z])) (fun z => hb (by simp [z])) z)) hf (Nat.le_refl _) new
    refine ⟨.ref st.heap.objs.size, _, I1, rfl, ⟨_, x, rfl, I.hok.fresh (Nat.le_refl _), rfl, fun ys hy => by rw [I.tuple_inj hy hq]; exact hx⟩, ⟨⟨y, ?_⟩, hs1.1.at fun o z => (sb.2 it (Ne.symm hne)).trans z, hne, n1, n2⟩, fun b hb => ?_⟩
    · rw [show ((i + 1 : Nat) : Int) = (i : Int) + 1 by omega]
      exact he2
    · have hb2 : b < st.heap.objs.size := by
        rcases (show b = e ∨ b = it by simpa using hb) with z | z
        · rw [z]; exact hel
        · rw [z]; exact hil
      rw [upd_ne (Nat.ne_of_lt hb2)]
      exact (hf b hb).1
  done := by
    intro X hP hw hK hc i pins st σ Hx E I hf q hg
    subst hP hw hK
    obtain ⟨⟨old, he⟩, hit, hne, n1, n2⟩ := q
    obtain ⟨xs, hq, hx⟩ := hg
    obtain ⟨its, rv, p, hz⟩ := I.tuple hq
    obtain ⟨f0, f1, f2, f3, f4, f5⟩ := hf it (by simp)
    have hl := rv.length
    have D : Draws X.prog X.w X.A.in1 it [it, a] i (fun _ _ => True) (fun j h => j = i ∧ h.IsTupleIter it a i ∧ h.IsTuple a its.toArray) :=
      { live := fun _ _ z => by obtain ⟨_, ⟨o, ho, _⟩, _⟩ := z; exact ⟨o, ho⟩
        frame := fun _ _ _ z hk => ⟨z.1, z.2.1.at fun o e => hk it (by simp) o e, z.2.2.at fun o e => hk a (by simp) o e⟩
        item := fun j s Q E hj z => absurd z.1 (Nat.ne_of_lt hj)
        done := fun s Q E z hE => wpAny_nextOf_tuple_end (I.ok.hd hc) z.2.1 z.2.2 (by simp; omega) hE }
    exact wpAny_pyNext_enum_endD D he ⟨rfl, hit, p⟩ fun h2 eb => ⟨rfl, I.turned (t' := st.toks) (fun b o hb q => eb b o hb q) f0 f1 f3 f4 f5⟩
  self := fun A i st Q E q h => by
    obtain ⟨⟨_, he⟩, _⟩ := q
    exact wpAny_pyIter_enum he h
def iEnumT (K : PySem.W.Frag) (ta : TA) : TI := fun σ Hx R => ta σ Hx fun vs H1 => ∃ a xs, vs = [.ref a] ∧ SqT K H1 a xs ∧ R (IteT K a) H1
theorem pi_enumT {X : Cx} {e : Expr} {ta : TA} {p pos tpos : Pos} {elts : List Expr} {kk : Nat} (hg : Gl X "enumerate") (hm : X.mg "enumerate" = none) (ha : PA X [e] ta) (hs : starEach [e] X.env = [(false, eval e X.env)] := by rfl) :
    PI X (.Tuple elts kk tpos) (.Call (.Name "enumerate" p) [e] [] pos) (iEnumT X.K ta) := by
  refine ⟨fun pins st σ Hx R I h => ?_⟩
  refine Call_ (ld_blt I hg hm boot_enumerate (PyProof.Rows.callWith_type1 (thn (ha.run pos pins st σ Hx _ I h) ?_) hs rfl))
  rintro us s1 ⟨vs, H1, I1, r1, a, xs, rfl, hq, q⟩
  obtain ⟨u, rfl, ru⟩ : ∃ u, us = [u] ∧ RelV (.ref a) u := by
    cases r1 with
    | cons x y => cases y; exact ⟨_, rfl, x⟩
  obtain rfl : u = Value.ref a := ru
  obtain ⟨its, rv, p2, hz⟩ := I1.tuple hq
  have al : a < s1.heap.objs.size := p2.lt
  refine enum1_begins (begins_tuple a its.toArray) p2 fun h2 he hit hsz hk => wpAny_pyIter_enum he ?_
  have I2 : L2.Inv X pins σ H1 { s1 with heap := h2 } := I1.kept (t' := s1.toks) hk
  refine ⟨s1.heap.objs.size + 1, [s1.heap.objs.size + 1, s1.heap.objs.size], _, _, H1, rfl, I2, turn_enumT a (s1.heap.objs.size + 1) s1.heap.objs.size,
    ⟨⟨.none, he⟩, ⟨_, hit, rfl, rfl⟩, Nat.succ_ne_self _, Nat.ne_of_lt al, Nat.ne_of_lt (Nat.lt_succ_of_lt al)⟩, fun b hb => ?_, q⟩
  have hle : s1.heap.objs.size ≤ b := by
    rcases (show b = s1.heap.objs.size + 1 ∨ b = s1.heap.objs.size by simpa using hb) with z | z
    · rw [z]; exact Nat.le_succ _
    · rw [z]; exact Nat.le_refl _
  exact I1.fpOk hle (I1.hok.fresh hle)
end SG

/-! The deck that laws draw from; what stays when it is drawn from. -/
namespace SG
open PySem PySem.Spec PyProof.Rows L2

abbrev kC : Key := Sum.inr ("cells" : Str)
abbrev kM : Key := Sum.inr ("mixed" : Str)
abbrev kD : Key := Sum.inr ("draws" : Str)
theorem kne1 : ¬ kC = kM := by decide +kernel
theorem kne2 : ¬ kC = kD := by decide +kernel
theorem kne3 : ¬ kM = kD := by decide +kernel
def deckO (l : Addr) (m n : Int) : List (Key × V) := [(kC, .ref l), (kM, .int m), (kD, .int n)]
theorem deck_cells (l : Addr) (m n : Int) : valV (deckO l m n) kC = some (.ref l) := valV_pos rfl
theorem deck_mixed (l : Addr) (m n : Int) : valV (deckO l m n) kM = some (.int m) := (valV_neg kne1).trans (valV_pos rfl)
theorem deck_draws (l : Addr) (m n : Int) : valV (deckO l m n) kD = some (.int n) := (valV_neg kne2).trans ((valV_neg kne3).trans (valV_pos rfl))
theorem deck_put (l : Addr) (m n k : Int) : putK (deckO l m n) kD (.int k) = deckO l m k := by
  have e : (decide (kD = kD)) = true := decide_eq_true rfl
  show (if (decide (kC = kD) || (decide (kM = kD) || (decide (kD = kD) || false))) = true then [if kC = kD then (kC, V.int k) else (kC, V.ref l), if kM = kD then (kM, V.int k) else (kM, V.int m), if kD = kD then (kD, V.int k) else (kD, V.int n)] else _) = _
  rw [decide_eq_false kne2, decide_eq_false kne3, e, if_neg kne2, if_neg kne3, if_pos rfl]
  rfl
theorem deck_made (l : Addr) (m n : Int) : mergeK [] (deckO l m n) = deckO l m n := by
  have e1 : putK ([] : List (Key × V)) kC (.ref l) = [(kC, .ref l)] := rfl
  have e2 : putK [(kC, V.ref l)] kM (.int m) = [(kC, .ref l), (kM, .int m)] := by
    show (if (decide (kC = kM) || false) = true then _ else [(kC, V.ref l)] ++ [(kM, V.int m)]) = _
    rw [decide_eq_false kne1]
    rfl
  have e3 : putK [(kC, V.ref l), (kM, V.int m)] kD (.int n) = deckO l m n := by
    show (if (decide (kC = kD) || (decide (kM = kD) || false)) = true then _ else [(kC, V.ref l), (kM, V.int m)] ++ [(kD, V.int n)]) = _
    rw [decide_eq_false kne2, decide_eq_false kne3]
    rfl
  show putK (putK (putK [] kC (.ref l)) kM (.int m)) kD (.int n) = _
  rw [e1, e2, e3]

/-- a deck stands at d, its cells at l; it was asked at most c times -/
def Deck (H : Hp) (d l : Addr) (c : Nat) : Prop :=
  ∃ (cs : List Int) (m n : Int), H d = some (.dK (deckO l m n)) ∧ H l = some (.lst (cs.map V.int)) ∧ (0 ≤ m ∧ m < 2147483648) ∧ (0 ≤ n ∧ n ≤ (c : Int)) ∧ cs.length ≤ 63
/-- all stays but the deck and its cells -/
def Kept (d l : Addr) (H H2 : Hp) : Prop := ∀ b o, H b = some o → b ≠ d → b ≠ l → H2 b = some o
theorem Kept.refl (d l : Addr) (H : Hp) : Kept d l H H := fun _ _ e _ _ => e
theorem Kept.trans {d l : Addr} {H H1 H2 : Hp} (a : Kept d l H H1) (b : Kept d l H1 H2) : Kept d l H H2 := fun c o e h1 h2 => b c o (a c o e h1 h2) h1 h2
theorem Kept.of {d l : Addr} {H H1 : Hp} (a : Same H H1) : Kept d l H H1 := fun c o e _ _ => a c o e
theorem Deck.mono {H : Hp} {d l : Addr} {c e : Nat} (D : Deck H d l c) (h : c ≤ e) : Deck H d l e := by
  obtain ⟨cs, m, n, h1, h2, h3, h4, h5⟩ := D
  exact ⟨cs, m, n, h1, h2, h3, ⟨h4.1, by omega⟩, h5⟩
theorem Deck.same {H H1 : Hp} {d l : Addr} {c : Nat} (D : Deck H d l c) (s : Same H H1) : Deck H1 d l c := by
  obtain ⟨cs, m, n, h1, h2, h3⟩ := D
  exact ⟨cs, m, n, s _ _ h1, s _ _ h2, h3⟩
theorem Deck.upd {H : Hp} {d l p : Addr} {c : Nat} {o : HO} (D : Deck H d l c) (hp : H p = none) : Deck (upd H p o) d l c := by
  obtain ⟨cs, m, n, h1, h2, h3⟩ := D
  exact ⟨cs, m, n, by rw [upd_ne (ne_of_none h1 hp)]; exact h1, by rw [upd_ne (ne_of_none h2 hp)]; exact h2, h3⟩
theorem same_new {H : Hp} {p : Addr} {o : HO} (h : H p = none) : Same H (upd H p o) := fun b x e => by
  rw [upd_ne (ne_of_none e h)]
  exact e
/-- tuples stay -/
theorem Kept.tup {K : PySem.W.Frag} {d l : Addr} {H H2 : Hp} {c : Nat} {a : Addr} {xs : List V} (k : Kept d l H H2) (D : Deck H d l c) (h : SqT K H a xs) : SqT K H2 a xs := by
  obtain ⟨cs, m, n, h1, h2, _⟩ := D
  rcases h with (h | ⟨o, h⟩) | h
  · exact .inl (.inl (k _ _ h (ne_of h h1 nofun) (ne_of h h2 nofun)))
  · exact .inl (.inr ⟨o, k _ _ h (ne_of h h1 nofun) (ne_of h h2 nofun)⟩)
  · exact .inr h
theorem sameT {K : PySem.W.Frag} {H H2 : Hp} {a : Addr} {xs : List V} (s : Same H H2) (h : SqT K H a xs) : SqT K H2 a xs := by
  rcases h with (h | ⟨o, h⟩) | h
  · exact .inl (.inl (s _ _ h))
  · exact .inl (.inr ⟨o, s _ _ h⟩)
  · exact .inr h
/-! ### ints as data -/
def dI (ns : List Int) : List PyData := ns.map PyData.int
theorem dpInts {K : PySem.W.Frag} {H : Hp} : ∀ ns : List Int, DpAll K H (ns.map V.int) (dI ns)
  | [] => .nil
  | n :: ns => .cons (.int n) (dpInts ns)
theorem layI : ∀ ns : List Int, PyData.canLayAll0 (dI ns) = true
  | [] => by simp [dI, PyData.canLayAll0]
  | n :: ns => by
    show PyData.canLayAll0 (PyData.int n :: dI ns) = true
    simp [PyData.canLayAll0, PyData.canLay0, layI ns]
theorem depI : ∀ ns : List Int, PyData.depthAll (dI ns) = 0
  | [] => by simp [dI, PyData.depthAll]
  | n :: ns => by
    show PyData.depthAll (PyData.int n :: dI ns) = 0
    simp [PyData.depthAll, PyData.depth, depI ns]
theorem shI (ns : List Int) : SeqAt.shaped (.list (dI ns)) = true := by
  simp [SeqAt.shaped, PyData.canLay0, PyData.depth, layI, depI]
theorem shTI (ns : List Int) : SeqAt.shaped (.tuple (dI ns)) = true := by
  simp [SeqAt.shaped, PyData.canLay0, PyData.depth, layI, depI]
theorem eqvI_nil : ∀ ns : List Int, PyData.eqv (.list (dI ns)) (.list []) = ns.isEmpty
  | [] => by simp [dI, PyData.eqv, PyData.eqvAll]
  | n :: ns => by
    show PyData.eqv (.list (PyData.int n :: dI ns)) (.list []) = false
    simp [PyData.eqv, PyData.eqvAll]
theorem dgCells {H : Hp} {d l : Addr} {m n : Int} (h : H d = some (.dK (deckO l m n))) : DGet H d (.str "cells") (some (.ref l)) := by
  have z := DGet.k (k := kC) h
  rw [deck_cells] at z
  exact z
theorem dgMixed {H : Hp} {d l : Addr} {m n : Int} (h : H d = some (.dK (deckO l m n))) : DGet H d (.str "mixed") (some (.int m)) := by
  have z := DGet.k (k := kM) h
  rw [deck_mixed] at z
  exact z
theorem dgDraws {H : Hp} {d l : Addr} {m n : Int} (h : H d = some (.dK (deckO l m n))) : DGet H d (.str "draws") (some (.int n)) := by
  have z := DGet.k (k := kD) h
  rw [deck_draws] at z
  exact z
theorem dpDraws {H : Hp} {d l : Addr} {m n : Int} (k : Int) (h : H d = some (.dK (deckO l m n))) : DPut H d (.str "draws") (.int k) (upd H d (.dK (deckO l m k))) := by
  have z := DPut.k (k := kD) (v := .int k) h (by show 3 < sizeLine; decide)
  rw [deck_put] at z
  exact z
theorem ifT {b : Bool} {A B : Prop} (h : b = true) (a : A) : if b = true then A else B := by
  rw [if_pos h]
  exact a
theorem ifF {b : Bool} {A B : Prop} (h : b = false) (a : B) : if b = true then A else B := by
  rw [h]
  exact iteF a
theorem mod_lo {a b : Int} (h : 0 < b) : 0 ≤ a % b := Int.emod_nonneg a (by omega)
theorem mod_hi {a b : Int} (h : 0 < b) : a % b < b := Int.emod_lt_of_pos a h
end SG

namespace SG
open PySem PySem.Spec PyProof.Rows L2

theorem Kept.lst {K : PySem.W.Frag} {d l : Addr} {H H2 : Hp} {c : Nat} {a : Addr} {xs : List V} (k : Kept d l H H2) (D : Deck H d l c) (hl : a ≠ l) (h : SqL K H a xs) : SqL K H2 a xs := by
  obtain ⟨cs, m, n, h1, h2, _⟩ := D
  rcases h with (h | ⟨o, h⟩) | h
  · exact .inl (.inl (k _ _ h (ne_of h h1 nofun) hl))
  · exact .inl (.inr ⟨o, k _ _ h (ne_of h h1 nofun) hl⟩)
  · exact .inr h
theorem Deck.ne {H : Hp} {d l p : Addr} {c : Nat} (D : Deck H d l c) (h : H p = none) : p ≠ d ∧ p ≠ l := by
  obtain ⟨cs, m, n, h1, h2, _⟩ := D
  exact ⟨(ne_of_none h1 h).symm, (ne_of_none h2 h).symm⟩
theorem wipe1 (σ : L2.St) (s : Nat) (x : Option V) : wipe ((wipe σ [s]).set s x) [s] = wipe σ [s] := by
  show (List.set (List.set (List.set σ s none) s x) s none) = List.set σ s none
  rw [List.set_set, List.set_set]
theorem yesI {A B : Hp → Prop} {σ : L2.St} {H : Hp} (h : A H) : tYes σ H (fun b H4 => if b = true then A H4 else B H4) := by
  show (if (true : Bool) = true then A H else B H)
  rw [if_pos rfl]
  exact h
/-- a list of ints that are drawn, turn by turn -/
theorem lc_draws {d l D : Addr} {c n s : Nat} {te : TE} {σ : L2.St} {H1 : Hp} {Qd : Hp → Prop} {B : Int → Prop} (D0 : Deck H1 d l c) (hD : H1 D = none) (hn : n ≤ 1000)
    (turn : ∀ (i : Nat) (H2 : Hp), i < n → Deck H2 d l (c + i) → Kept d l H1 H2 → ∀ R : VK, (∀ (x : Int) (H3 : Hp), B x → Deck H3 d l (c + i + 1) → Kept d l H2 H3 → R (.int x) H3) → te ((wipe σ [s]).set s (some (.int (0 + i)))) H2 R)
    (done : ∀ (xs : List Int) (H2 : Hp), xs.length = n → (∀ x ∈ xs, B x) → H2 D = some (.lst (xs.map V.int)) → Deck H2 d l (c + n) → Kept d l H1 H2 → Qd H2) :
    ∃ W : Nat → Nat → Hp → Prop, (∃ m, W 0 m (upd H1 D (.lst []))) ∧ ∀ i m H, W i m H →
      ((Itr 0 n).stop i H ∧ Qd H) ∨ ((Itr 0 n).go i H ∧ ∃ Nx : Hp → Prop, (∀ H2, Nx H2 → ∃ m2, m2 < m ∧ W (i + 1) m2 H2) ∧ ∀ x H2, (Itr 0 n).yld i H x H2 → gName s x (wipe σ [s]) H2 fun σ2 H3 => wipe σ2 [s] = wipe σ [s] ∧ tYes σ2 H3 fun b H4 =>
        if b = true then te σ2 H4 fun y H5 => ∃ acc, H5 D = some (.lst acc) ∧ acc.length < sizeLine ∧ Nx (upd H5 D (.lst (acc ++ [y]))) else Nx H4) := by
  obtain ⟨nd, nl⟩ := D0.ne hD
  refine lc_range (fun i H2 => ∃ xs : List Int, xs.length = i ∧ (∀ x ∈ xs, B x) ∧ H2 D = some (.lst (xs.map V.int)) ∧ Deck H2 d l (c + i) ∧ Kept d l H1 H2) ?_ ?_ ?_
  · exact ⟨[], rfl, (fun _ h => absurd h List.not_mem_nil), upd_same, D0.upd hD, .of (same_new hD)⟩
  · rintro i H2 hi ⟨xs, hx, hB, hD2, D2, k2⟩
    refine ⟨wipe1 _ _ _, ?_⟩
    refine yesI ?_
    refine turn i H2 hi D2 k2 _ fun x H3 hb D3 k3 => ⟨xs.map V.int, k3 _ _ hD2 nd nl, ?_, xs ++ [x], by simp [hx], fun y hy => ?_, ?_, ?_, ?_⟩
    · rw [List.length_map, hx]
      exact small1000 (by omega)
    · rcases List.mem_append.mp hy with h | h
      · exact hB y h
      · rw [List.mem_singleton.mp h]; exact hb
    · rw [upd_same, List.map_append]
      rfl
    · obtain ⟨cs, m, k, h1, h2, h3⟩ := D3
      exact ⟨cs, m, k, by rw [upd_ne nd.symm]; exact h1, by rw [upd_ne nl.symm]; exact h2, h3⟩
    · intro b o e h1 h2
      rw [upd_ne (ne_of_none e hD)]
      exact k3 _ _ (k2 _ _ e h1 h2) h1 h2
  · rintro H2 ⟨xs, hx, hB, hD2, D2, k2⟩
    exact done xs H2 hx hB hD2 D2 k2
end SG

namespace SG
open PySem PySem.Spec PyProof.Rows L2

/-- a comprehension over enumerate of a tuple -/
theorem lc_enumT {K : PySem.W.Frag} {a D : Addr} {xs : List V} {g : TG} {tt : TT} {te : TE} {vs : List Nat} {σ : L2.St} {H1 : Hp} {Qd : Hp → Prop} (Pv : Nat → Hp → Prop) (h0 : Pv 0 (upd H1 D (.lst []))) (hl : ∀ i H, i ≤ xs.length → Pv i H → SqT K H a xs)
    (hs : ∀ (i : Nat) (x : V) (H : Hp) (T : Addr), xs[i]? = some x → Pv i H → H T = none → g (.ref T) (wipe σ vs) (upd H T (.tup [.int (i : Nat), x])) fun σ2 H2 => wipe σ2 vs = wipe σ vs ∧ tt σ2 H2 fun b H3 =>
      if b = true then te σ2 H3 fun y H4 => ∃ acc, H4 D = some (.lst acc) ∧ acc.length < sizeLine ∧ Pv (i + 1) (upd H4 D (.lst (acc ++ [y]))) else Pv (i + 1) H3) (hd : ∀ H, Pv xs.length H → Qd H) :
    ∃ W : Nat → Nat → Hp → Prop, (∃ m, W 0 m (upd H1 D (.lst []))) ∧ ∀ i m H, W i m H →
      ((IteT K a).stop i H ∧ Qd H) ∨ ((IteT K a).go i H ∧ ∃ Nx : Hp → Prop, (∀ H2, Nx H2 → ∃ m2, m2 < m ∧ W (i + 1) m2 H2) ∧ ∀ x H2, (IteT K a).yld i H x H2 → g x (wipe σ vs) H2 fun σ2 H3 => wipe σ2 vs = wipe σ vs ∧ tt σ2 H3 fun b H4 =>
        if b = true then te σ2 H4 fun y H5 => ∃ acc, H5 D = some (.lst acc) ∧ acc.length < sizeLine ∧ Nx (upd H5 D (.lst (acc ++ [y]))) else Nx H4) := by
  refine ⟨fun i m H => m = xs.length - i ∧ i ≤ xs.length ∧ Pv i H, ⟨xs.length, by simp, Nat.zero_le _, h0⟩, ?_⟩
  rintro i m H ⟨rfl, hi, p⟩
  have q := hl i H hi p
  rcases Nat.lt_or_eq_of_le hi with hlt | rfl
  · refine .inr ⟨⟨xs, xs[i], q, by simp [hlt]⟩, Pv (i + 1), fun H2 p2 => ⟨xs.length - (i + 1), by omega, rfl, hlt, p2⟩, ?_⟩
    rintro x H2 ⟨T, x, rfl, hT, rfl, hx⟩
    exact hs i x H T (hx xs q) p hT
  · exact .inl ⟨⟨xs, q, Nat.le_refl _⟩, hd H p⟩
theorem wipe2 (σ : L2.St) (s1 s2 : Nat) (x y : Option V) : wipe (((wipe σ [s1, s2]).set s1 x).set s2 y) [s1, s2] = wipe σ [s1, s2] := by
  show List.set (List.set (List.set (List.set (List.set (List.set σ s2 none) s1 none) s1 x) s2 y) s2 none) s1 none = List.set (List.set σ s2 none) s1 none
  by_cases e : s1 = s2
  · subst e
    simp [List.set_set]
  · have z1 : List.set (List.set (List.set (List.set σ s2 none) s1 none) s1 x) s2 y = List.set (List.set (List.set σ s2 none) s1 x) s2 y := by rw [List.set_set]
    rw [z1]
    refine List.ext_getElem? fun i => ?_
    simp only [List.getElem?_set, List.length_set]
    split <;> split <;> rfl
  -- rw [List.set_set, List.set_comm x none e, List.set_set, List.set_comm none none (Ne.symm e), List.set_set]
theorem same_upd_of {H H2 : Hp} {p : Addr} {o : HO} (s : Same H H2) (h : H p = none) : Same H (upd H2 p o) := fun b x e => by
  rw [upd_ne (ne_of_none e h)]
  exact s _ _ e
/-- .. whose items are told ahead, and that makes new objects alone -/
theorem lc_enumS {K : PySem.W.Frag} {a D : Addr} {xs ys : List V} {te : TE} {s1 s2 : Nat} {σ : L2.St} {H1 : Hp} {Qd : Hp → Prop} (hn : xs.length ≤ 1000) (hD : H1 D = none) (hS : SqT K H1 a xs) (hy : ys.length = xs.length)
    (turn : ∀ (i : Nat) (x y : V) (H2 : Hp), xs[i]? = some x → ys[i]? = some y → Same H1 H2 → ∀ R : VK, (∀ H3, Same H2 H3 → R y H3) → te (((wipe σ [s1, s2]).set s1 (some (.int (i : Nat)))).set s2 (some x)) H2 R)
    (done : ∀ H2, Same H1 H2 → H2 D = some (.lst ys) → Qd H2) :
    ∃ W : Nat → Nat → Hp → Prop, (∃ m, W 0 m (upd H1 D (.lst []))) ∧ ∀ i m H, W i m H →
      ((IteT K a).stop i H ∧ Qd H) ∨ ((IteT K a).go i H ∧ ∃ Nx : Hp → Prop, (∀ H2, Nx H2 → ∃ m2, m2 < m ∧ W (i + 1) m2 H2) ∧ ∀ x H2, (IteT K a).yld i H x H2 → gTup K 2 (gCons (gName s1) (gCons (gName s2) gNil)) x (wipe σ [s1, s2]) H2 fun σ2 H3 => wipe σ2 [s1, s2] = wipe σ [s1, s2] ∧ tYes σ2 H3 fun b H4 =>
        if b = true then te σ2 H4 fun y H5 => ∃ acc, H5 D = some (.lst acc) ∧ acc.length < sizeLine ∧ Nx (upd H5 D (.lst (acc ++ [y]))) else Nx H4) := by
  refine lc_enumT (xs := xs) (fun i H2 => Same H1 H2 ∧ H2 D = some (.lst (ys.take i))) ⟨same_new hD, by rw [upd_same, List.take_zero]⟩ (fun i H2 _ p => sameT p.1 hS) ?_ ?_
  · rintro i x H2 T hx ⟨s, h2⟩ hT
    have hi : i < ys.length := by rw [hy]; exact (List.getElem?_eq_some_iff.mp hx).1
    have hyi : ys[i]? = some ys[i] := List.getElem?_eq_getElem hi
    refine ⟨T, _, rfl, .inl (.inl upd_same), rfl, _, _, rfl, _, _, rfl, rfl, wipe2 _ _ _ _ _, ?_⟩
    refine yesI ?_
    have s1 : Same H1 (upd H2 T (.tup [.int (i : Nat), x])) := s.trans (same_new hT)
    have hD2 : (upd H2 T (.tup [.int (i : Nat), x])) D = some (.lst (ys.take i)) := same_new hT _ _ h2
    refine turn i x _ _ hx hyi s1 _ fun H3 s3 => ⟨ys.take i, s3 _ _ hD2, ?_, same_upd_of (s1.trans s3) hD, ?_⟩
    · rw [List.length_take]
      exact small1000 (by omega)
    · rw [upd_same, List.take_add_one, hyi]
      rfl
  · rintro H2 ⟨s, h2⟩
    refine done H2 s ?_
    rw [h2, ← hy, List.take_length]
end SG

namespace SG
open PySem PySem.Spec PyProof.Rows L2
/-- a comprehension over a tuple, whose items are told ahead, and that makes new objects alone -/
theorem lc_tupS {K : PySem.W.Frag} {a D : Addr} {xs ys : List V} {te : TE} {s : Nat} {σ : L2.St} {H1 : Hp} {Qd : Hp → Prop} (hn : xs.length ≤ 1000) (hD : H1 D = none) (hS : SqT K H1 a xs) (hy : ys.length = xs.length)
    (turn : ∀ (i : Nat) (x y : V) (H2 : Hp), xs[i]? = some x → ys[i]? = some y → Same H1 H2 → ∀ R : VK, (∀ H3, Same H2 H3 → R y H3) → te ((wipe σ [s]).set s (some x)) H2 R)
    (done : ∀ H2, Same H1 H2 → H2 D = some (.lst ys) → Qd H2) :
    ∃ W : Nat → Nat → Hp → Prop, (∃ m, W 0 m (upd H1 D (.lst []))) ∧ ∀ i m H, W i m H →
      ((Itt K a).stop i H ∧ Qd H) ∨ ((Itt K a).go i H ∧ ∃ Nx : Hp → Prop, (∀ H2, Nx H2 → ∃ m2, m2 < m ∧ W (i + 1) m2 H2) ∧ ∀ x H2, (Itt K a).yld i H x H2 → gName s x (wipe σ [s]) H2 fun σ2 H3 => wipe σ2 [s] = wipe σ [s] ∧ tYes σ2 H3 fun b H4 =>
        if b = true then te σ2 H4 fun y H5 => ∃ acc, H5 D = some (.lst acc) ∧ acc.length < sizeLine ∧ Nx (upd H5 D (.lst (acc ++ [y]))) else Nx H4) := by
  refine lc_tup (xs := xs) (fun i H2 => Same H1 H2 ∧ H2 D = some (.lst (ys.take i))) ⟨same_new hD, by rw [upd_same, List.take_zero]⟩ (fun i H2 _ p => sameT p.1 hS) ?_ ?_
  · rintro i x H2 hx ⟨sm, h2⟩
    have hi : i < ys.length := by rw [hy]; exact (List.getElem?_eq_some_iff.mp hx).1
    have hyi : ys[i]? = some ys[i] := List.getElem?_eq_getElem hi
    refine ⟨wipe1 _ _ _, ?_⟩
    refine yesI ?_
    refine turn i x _ _ hx hyi sm _ fun H3 s3 => ⟨ys.take i, s3 _ _ h2, ?_, same_upd_of (sm.trans s3) hD, ?_⟩
    · rw [List.length_take]
      exact small1000 (by omega)
    · rw [upd_same, List.take_add_one, hyi]
      rfl
  · rintro H2 ⟨sm, h2⟩
    refine done H2 sm ?_
    rw [h2, ← hy, List.take_length]
/-- the same over a list -/
theorem lc_listS {K : PySem.W.Frag} {a D : Addr} {xs ys : List V} {te : TE} {s : Nat} {σ : L2.St} {H1 : Hp} {Qd : Hp → Prop} (hn : xs.length ≤ 1000) (hD : H1 D = none) (hS : SqL K H1 a xs) (hy : ys.length = xs.length)
    (turn : ∀ (i : Nat) (x y : V) (H2 : Hp), xs[i]? = some x → ys[i]? = some y → Same H1 H2 → ∀ R : VK, (∀ H3, Same H2 H3 → R y H3) → te ((wipe σ [s]).set s (some x)) H2 R)
    (done : ∀ H2, Same H1 H2 → H2 D = some (.lst ys) → Qd H2) :
    ∃ W : Nat → Nat → Hp → Prop, (∃ m, W 0 m (upd H1 D (.lst []))) ∧ ∀ i m H, W i m H →
      ((Itl K a).stop i H ∧ Qd H) ∨ ((Itl K a).go i H ∧ ∃ Nx : Hp → Prop, (∀ H2, Nx H2 → ∃ m2, m2 < m ∧ W (i + 1) m2 H2) ∧ ∀ x H2, (Itl K a).yld i H x H2 → gName s x (wipe σ [s]) H2 fun σ2 H3 => wipe σ2 [s] = wipe σ [s] ∧ tYes σ2 H3 fun b H4 =>
        if b = true then te σ2 H4 fun y H5 => ∃ acc, H5 D = some (.lst acc) ∧ acc.length < sizeLine ∧ Nx (upd H5 D (.lst (acc ++ [y]))) else Nx H4) := by
  refine lc_list (xs := xs) (fun i H2 => Same H1 H2 ∧ H2 D = some (.lst (ys.take i))) ⟨same_new hD, by rw [upd_same, List.take_zero]⟩ (fun i H2 _ p => p.1.seq hS) ?_ ?_
  · rintro i x H2 hx ⟨sm, h2⟩
    have hi : i < ys.length := by rw [hy]; exact (List.getElem?_eq_some_iff.mp hx).1
    have hyi : ys[i]? = some ys[i] := List.getElem?_eq_getElem hi
    refine ⟨wipe1 _ _ _, ?_⟩
    refine yesI ?_
    refine turn i x _ _ hx hyi sm _ fun H3 s3 => ⟨ys.take i, s3 _ _ h2, ?_, same_upd_of (sm.trans s3) hD, ?_⟩
    · rw [List.length_take]
      exact small1000 (by omega)
    · rw [upd_same, List.take_add_one, hyi]
      rfl
  · rintro H2 ⟨sm, h2⟩
    refine done H2 sm ?_
    rw [h2, ← hy, List.take_length]
/-- the same over a list, its target a pair -/
theorem lc_listP {K : PySem.W.Frag} {a D : Addr} {xs ys : List V} {te : TE} {s1 s2 : Nat} {σ : L2.St} {H1 : Hp} {Qd : Hp → Prop} (hn : xs.length ≤ 1000) (hD : H1 D = none) (hS : SqL K H1 a xs) (hy : ys.length = xs.length)
    (turn : ∀ (i : Nat) (x y : V) (H2 : Hp), xs[i]? = some x → ys[i]? = some y → Same H1 H2 → ∃ p u v, x = .ref p ∧ SqT K H2 p [u, v] ∧ ∀ R : VK, (∀ H3, Same H2 H3 → R y H3) → te (((wipe σ [s1, s2]).set s1 (some u)).set s2 (some v)) H2 R)
    (done : ∀ H2, Same H1 H2 → H2 D = some (.lst ys) → Qd H2) :
    ∃ W : Nat → Nat → Hp → Prop, (∃ m, W 0 m (upd H1 D (.lst []))) ∧ ∀ i m H, W i m H →
      ((Itl K a).stop i H ∧ Qd H) ∨ ((Itl K a).go i H ∧ ∃ Nx : Hp → Prop, (∀ H2, Nx H2 → ∃ m2, m2 < m ∧ W (i + 1) m2 H2) ∧ ∀ x H2, (Itl K a).yld i H x H2 → gTup K 2 (gCons (gName s1) (gCons (gName s2) gNil)) x (wipe σ [s1, s2]) H2 fun σ2 H3 => wipe σ2 [s1, s2] = wipe σ [s1, s2] ∧ tYes σ2 H3 fun b H4 =>
        if b = true then te σ2 H4 fun y H5 => ∃ acc, H5 D = some (.lst acc) ∧ acc.length < sizeLine ∧ Nx (upd H5 D (.lst (acc ++ [y]))) else Nx H4) := by
  refine lc_list (xs := xs) (fun i H2 => Same H1 H2 ∧ H2 D = some (.lst (ys.take i))) ⟨same_new hD, by rw [upd_same, List.take_zero]⟩ (fun i H2 _ p => p.1.seq hS) ?_ ?_
  · rintro i x H2 hx ⟨sm, h2⟩
    have hi : i < ys.length := by rw [hy]; exact (List.getElem?_eq_some_iff.mp hx).1
    have hyi : ys[i]? = some ys[i] := List.getElem?_eq_getElem hi
    obtain ⟨p, u, v, rfl, hp, tn⟩ := turn i x _ _ hx hyi sm
    refine ⟨p, _, rfl, hp, rfl, _, _, rfl, _, _, rfl, rfl, wipe2 _ _ _ _ _, ?_⟩
    refine yesI ?_
    refine tn _ fun H3 s3 => ⟨ys.take i, s3 _ _ h2, ?_, same_upd_of (sm.trans s3) hD, ?_⟩
    · rw [List.length_take]
      exact small1000 (by omega)
    · rw [upd_same, List.take_add_one, hyi]
      rfl
  · rintro H2 ⟨sm, h2⟩
    refine done H2 sm ?_
    rw [h2, ← hy, List.take_length]
end SG

/-! The rules that speak of the written part, with it as a letter: so they serve in a comprehension too. -/
namespace SG
open PySem PySem.Spec PyProof.Rows L2
section
variable {X : Cx} {K : PySem.W.Frag}
def rLenS (K : PySem.W.Frag) : List V → Hp → VK → Prop := fun xs H Q => ∃ p ys, xs = [.ref p] ∧ (SqL K H p ys ∨ SqT K H p ys) ∧ Q (.int ys.length) H
def rListOf (K : PySem.W.Frag) : List V → Hp → VK → Prop := fun xs H Q => ∃ p ys, xs = [.ref p] ∧ (SqL K H p ys ∨ SqT K H p ys) ∧ ∀ l, H l = none → Q (.ref l) (upd H l (.lst ys))
def rTupOf (K : PySem.W.Frag) : List V → Hp → VK → Prop := fun xs H Q => ∃ p ys, xs = [.ref p] ∧ ((SqL K H p ys ∧ ∀ l, H l = none → Q (.ref l) (upd H l (.tup ys))) ∨ (SqT K H p ys ∧ Q (.ref p) H))
theorem k_len (e : X.K = K := by rfl) : CallR X (.builtin "len") (rLenS K) := e ▸ call_len_seq
theorem k_listOf (e : X.K = K := by rfl) : CallR X (.type "list") (rListOf K) := e ▸ call_list_of
theorem k_tupOf (e : X.K = K := by rfl) : CallR X (.type "tuple") (rTupOf K) := e ▸ call_tuple_of
theorem k_sum (hc : X.calm = true) (e : X.K = K := by rfl) : CallR X (.builtin "sum") (rSum K) := e ▸ cr_sum hc
theorem k_all (hc : X.calm = true) (e : X.K = K := by rfl) : CallR X (.builtin "all") (rAll K) := e ▸ cr_all hc
theorem k_any (hc : X.calm = true) (e : X.K = K := by rfl) : CallR X (.builtin "any") (rAny K) := e ▸ cr_any hc
theorem k_isi (e : X.K = K := by rfl) : CallR X (.builtin "isinstance") (rIsi K) := e ▸ call_isi
theorem k_repr {k : Nat} (hn : X.base.NoDigits) (hg : X.A.guards = some []) (hr : Room k X.A) (e : X.K = K := by rfl) : CallR X (.builtin "repr") (rRepr K) := e ▸ call_reprG hn hg hr
theorem k_ixL (e : X.K = K := by rfl) : IxR X (rIxL K) := e ▸ ix_list
theorem k_ixT (e : X.K = K := by rfl) : IxR X (rIxT K) := e ▸ ix_tup
theorem k_ix (e : X.K = K := by rfl) : IxR X (rIx K) := e ▸ ix_seq
theorem k_slL (e : X.K = K := by rfl) : SlR X (rSlL K) := e ▸ sl_list
theorem k_slT (e : X.K = K := by rfl) : SlR X (rSlA K) := e ▸ sl_tupA
theorem k_catT (e : X.K = K := by rfl) : OpR X (binaryOp .Add) (rCatA K) := e ▸ op_catA
theorem k_eqD (hu : X.A.units + 64 < cLine) (e : X.K = K := by rfl) : OpR X (compareOp .Eq) (rEqD K) := e ▸ op_eqD hu
theorem k_neD (hu : X.A.units + 64 < cLine) (e : X.K = K := by rfl) : OpR X (compareOp .NotEq) (rNeD K) := e ▸ op_neD hu
theorem k_rev {x : Expr} {k} {p1 p2 p3 pos : Pos} {te : TE} (he : PE X x te) (e : X.K = K := by rfl) : PE X (.Subscript x (.Slice none none (some (.UnaryOp .USub (.Constant (.int 1) k p1) p2)) p3) pos) (tRevL K te) := e ▸ pe_revL he
theorem k_tg {es : List Expr} {k : Nat} {t : TGs} {n : Nat} {pos : Pos} (hc : X.calm = true) (h : PGs X es t) (hn : (assignEach es X.env).length = n := by rfl) (hst : (assignEach es X.env).findIdx? (·.1) = none := by rfl) (e : X.K = K := by rfl) : PG X (.Tuple es k pos) (gTup K n t) := e ▸ pg_tup hc h hn hst
theorem k_enumT {x : Expr} {ta : TA} {p pos tpos : Pos} {elts : List Expr} {kk : Nat} (hg : Gl X "enumerate") (hm : X.mg "enumerate" = none) (ha : PA X [x] ta) (hs : starEach [x] X.env = [(false, eval x X.env)] := by rfl) (e : X.K = K := by rfl) :
    PI X (.Tuple elts kk tpos) (.Call (.Name "enumerate" p) [x] [] pos) (iEnumT K ta) := e ▸ pi_enumT hg hm ha hs
theorem k_enum {x : Expr} {ta : TA} {p pos tpos : Pos} {elts : List Expr} {kk : Nat} (hg : Gl X "enumerate") (hm : X.mg "enumerate" = none) (ha : PA X [x] ta) (hs : starEach [x] X.env = [(false, eval x X.env)] := by rfl) (e : X.K = K := by rfl) :
    PI X (.Tuple elts kk tpos) (.Call (.Name "enumerate" p) [x] [] pos) (iEnum K ta) := e ▸ pi_enum hg hm ha hs
end
end SG

/-! Data at any depth, and the empty dict: its kind, lengths, items. -/
namespace SG
open PySem PySem.Spec PyProof.Rows L2
/-- data, or the empty dict -/
def Dq (K : PySem.W.Frag) (H : Hp) (x : V) (d : PyData) : Prop := Dp K H x d ∨ (d = .dict [] ∧ ∃ a, x = .ref a ∧ H a = some (.dK []))
def kindOf : PyData → String
  | .none => "NoneType"
  | .bool _ => "bool"
  | .int _ => "int"
  | .str _ => "str"
  | .list _ => "list"
  | .tuple _ => "tuple"
  | .dict _ => "dict"
section
variable {K : PySem.W.Frag} {H H2 : Hp} {x : V} {d : PyData}
theorem dp_ty (h : Dp K H x d) : TyX K H x (.type (kindOf d)) := by
  cases h with
  | non => exact .base .non
  | bl b => exact .base (.bl b)
  | int i => exact .base (.int i)
  | str s => exact .base (.str s)
  | lst s _ =>
    rcases s with (s | ⟨o, s⟩) | ⟨o, vs, n, s, c, _⟩
    · exact .base (.lst s)
    · exact .base (.frz s)
    · exact .kList s c
  | tup s _ =>
    rcases s with (s | ⟨o, s⟩) | ⟨o, vs, n, s, c, _⟩
    · exact .base (.tup s)
    · exact .fTuple s
    · exact .kTuple s c
theorem dq_ty (h : Dq K H x d) : TyX K H x (.type (kindOf d)) := by
  rcases h with h | ⟨rfl, a, rfl, h⟩
  · exact dp_ty h
  · exact .base (.dK h)
mutual
theorem dp_same (s : Same H H2) : ∀ {x : V} {d : PyData}, Dp K H x d → Dp K H2 x d
  | _, _, .non => .non
  | _, _, .bl b => .bl b
  | _, _, .int i => .int i
  | _, _, .str t => .str t
  | _, _, .lst q a => .lst (s.seq q) (dpA_same s a)
  | _, _, .tup q a => .tup (sameT s q) (dpA_same s a)
theorem dpA_same (s : Same H H2) : ∀ {xs : List V} {ds : List PyData}, DpAll K H xs ds → DpAll K H2 xs ds
  | _, _, .nil => .nil
  | _, _, .cons a b => .cons (dp_same s a) (dpA_same s b)
end
theorem dq_same (s : Same H H2) (h : Dq K H x d) : Dq K H2 x d := by
  rcases h with h | ⟨e, a, e2, h⟩
  · exact .inl (dp_same s h)
  · exact .inr ⟨e, a, e2, s _ _ h⟩
theorem dpA_len : ∀ {xs : List V} {ds : List PyData}, DpAll K H xs ds → xs.length = ds.length
  | _, _, .nil => rfl
  | _, _, .cons _ b => congrArg (· + 1) (dpA_len b)
theorem dpA_get : ∀ {xs : List V} {ds : List PyData} {i : Nat} {x : V}, DpAll K H xs ds → xs[i]? = some x → ∃ d, ds[i]? = some d ∧ Dp K H x d
  | _, _, _, _, .nil, e => by simp at e
  | _, _, 0, _, .cons a b, e => by
    simp at e
    subst e
    exact ⟨_, rfl, a⟩
  | _, _, i + 1, x, .cons a b, e => by
    obtain ⟨d, h1, h2⟩ := dpA_get (i := i) (x := x) b (by simpa using e)
    exact ⟨d, by simpa using h1, h2⟩
theorem dpA_app : ∀ {xs ys : List V} {ds es : List PyData}, DpAll K H xs ds → DpAll K H ys es → DpAll K H (xs ++ ys) (ds ++ es)
  | _, _, _, _, .nil, h => h
  | _, _, _, _, .cons a b, h => .cons a (dpA_app b h)
/-- what is no tuple has no tuple's kind -/
theorem dq_tuple {ds : List PyData} (h : Dq K H x (.tuple ds)) : ∃ a xs, x = .ref a ∧ SqT K H a xs ∧ DpAll K H xs ds := by
  rcases h with h | ⟨e, _⟩
  · cases h with
    | tup q a => exact ⟨_, _, rfl, q, a⟩
  · cases e
def isTup : PyData → Bool
  | .tuple _ => true
  | _ => false
def isInt : PyData → Bool
  | .int _ => true
  | _ => false
theorem isi_tuple (h : Dq K H x d) : PySem.W.kitOne K (.type (kindOf d)) (.type "tuple") = some (isTup d) := by
  cases d with
  | none => exact kit_ty (show kitB "NoneType" "tuple" = some false by decide +kernel)
  | bool _ => exact kit_ty (show kitB "bool" "tuple" = some false by decide +kernel)
  | int _ => exact kit_ty (show kitB "int" "tuple" = some false by decide +kernel)
  | str _ => exact kit_ty (show kitB "str" "tuple" = some false by decide +kernel)
  | list _ => exact kit_ty (show kitB "list" "tuple" = some false by decide +kernel)
  | tuple _ => exact kit_ty (show kitB "tuple" "tuple" = some true by decide +kernel)
  | dict _ => exact kit_ty (show kitB "dict" "tuple" = some false by decide +kernel)
def isIntLike : PyData → Bool
  | .int _ => true
  | .bool _ => true
  | _ => false
def isBool : PyData → Bool
  | .bool _ => true
  | _ => false
theorem isi_int (h : Dq K H x d) : PySem.W.kitOne K (.type (kindOf d)) (.type "int") = some (isIntLike d) := by
  cases d with
  | none => exact kit_ty (show kitB "NoneType" "int" = some false by decide +kernel)
  | bool _ => exact kit_ty (show kitB "bool" "int" = some true by decide +kernel)
  | int _ => exact kit_ty (show kitB "int" "int" = some true by decide +kernel)
  | str _ => exact kit_ty (show kitB "str" "int" = some false by decide +kernel)
  | list _ => exact kit_ty (show kitB "list" "int" = some false by decide +kernel)
  | tuple _ => exact kit_ty (show kitB "tuple" "int" = some false by decide +kernel)
  | dict _ => exact kit_ty (show kitB "dict" "int" = some false by decide +kernel)
theorem isi_bool (h : Dq K H x d) : PySem.W.kitOne K (.type (kindOf d)) (.type "bool") = some (isBool d) := by
  cases d with
  | none => exact kit_ty (show kitB "NoneType" "bool" = some false by decide +kernel)
  | bool _ => exact kit_ty (show kitB "bool" "bool" = some true by decide +kernel)
  | int _ => exact kit_ty (show kitB "int" "bool" = some false by decide +kernel)
  | str _ => exact kit_ty (show kitB "str" "bool" = some false by decide +kernel)
  | list _ => exact kit_ty (show kitB "list" "bool" = some false by decide +kernel)
  | tuple _ => exact kit_ty (show kitB "tuple" "bool" = some false by decide +kernel)
  | dict _ => exact kit_ty (show kitB "dict" "bool" = some false by decide +kernel)
end
/-! ### two tuples put together, a slice of a tuple: whatever object it is -/
theorem cat3 {K : PySem.W.Frag} {C : V → Hp → Prop} {H : Hp} {a b : Addr} {xs ys : List V} (hA : SqT K H a xs) (hB : SqT K H b ys) (h : ∀ (x : Addr) (H3 : Hp), Same H H3 → SqT K H3 x (xs ++ ys) → C (.ref x) H3) :
    (xs = [] → C (.ref b) H) ∧ (xs ≠ [] → ys = [] → C (.ref a) H) ∧ (xs ≠ [] → ys ≠ [] → ∀ p, H p = none → C (.ref p) (upd H p (.tup (xs ++ ys)))) := by
  refine ⟨fun e => ?_, fun _ e => ?_, fun _ _ p np => h p _ (same_new np) (.inl (.inl upd_same))⟩
  · subst e
    exact h b H (Same.refl H) hB
  · subst e
    refine h a H (Same.refl H) ?_
    rw [List.append_nil]
    exact hA
def rCatU (K : PySem.W.Frag) : R2 := fun x y H Q => ∃ a b xs ys, x = .ref a ∧ y = .ref b ∧ SqT K H a xs ∧ SqT K H b ys ∧ xs.length + ys.length ≤ sizeLine ∧ ∀ (z : Addr) (H3 : Hp), Same H H3 → SqT K H3 z (xs ++ ys) → Q (.ref z) H3
theorem k_catU {X : Cx} {K : PySem.W.Frag} (e : X.K = K := by rfl) : OpR X (binaryOp .Add) (rCatU K) := by
  subst e
  intro pins s σ H x y v u Q I rx ry h
  obtain ⟨a, b, xs, ys, rfl, rfl, hA, hB, hl, q⟩ := h
  exact op_catA pins s σ H _ _ v u Q I rx ry ⟨a, b, xs, ys, rfl, rfl, hA, hB, hl, cat3 hA hB q⟩
def rSlU (K : PySem.W.Frag) : V → Option Int → Option Int → Hp → VK → Prop := fun x lo hi H Q => ∃ a xs, x = .ref a ∧ SqT K H a xs ∧ ∀ (z : Addr) (H3 : Hp), Same H H3 → SqT K H3 z (cutV xs lo hi) → Q (.ref z) H3
theorem k_slU {X : Cx} {K : PySem.W.Frag} (e : X.K = K := by rfl) : SlR X (rSlU K) := by
  subst e
  intro pins s σ H x v vl vu lo hi sl Q I rx hs pl pu h
  obtain ⟨a, xs, rfl, hA, q⟩ := h
  refine sl_tupA pins s σ H _ v vl vu lo hi sl Q I rx hs pl pu ⟨a, xs, rfl, hA, fun z => q a H (Same.refl H) ?_, fun _ p np => q p _ (same_new np) (.inl (.inl upd_same))⟩
  unfold cutV
  rw [z.1, z.2, Nat.sub_zero, List.drop_zero, List.take_length]
  exact hA
def isRuleD : PyData → Bool
  | .tuple [.tuple xs, .tuple ys] => xs.length == ys.length && (xs ++ ys).all isInt
  | _ => false
end SG

/-! Data that can be told and compared. -/
namespace SG
open PySem PySem.Spec PyProof.Rows L2
structure OkD (d : PyData) : Prop where
  lay : d.canLay0 = true
  dep : d.depth ≤ 50
  tell : tellable d = true
  short : d.leavesShort 4302 = true
  bulk : d.bulk ≤ 3000
structure OkA (ds : List PyData) : Prop where
  lay : PyData.canLayAll0 ds = true
  dep : PyData.depthAll ds ≤ 49
  tell : tellableAll ds = true
  short : PyData.leavesShortAll 4302 ds = true
theorem OkD.shown {d : PyData} (h : OkD d) : d.shown.length ≤ sizeLine := by
  have z := PyData.shown_le_bulk 4302 (by decide) d h.short
  have z2 : (4302 + 2) * d.bulk ≤ 4304 * 3000 := Nat.mul_le_mul (Nat.le_refl _) h.bulk
  rw [sizeLine_eq]
  omega
theorem OkA.tuple {ds : List PyData} (h : OkA ds) (b : PyData.bulkAll ds ≤ 3000) : OkD (.tuple ds) :=
  ⟨by simpa only [PyData.canLay0] using h.lay, by simp only [PyData.depth]; have := h.dep; omega, by simpa only [tellable] using h.tell, by simpa only [PyData.leavesShort] using h.short, by simpa only [PyData.bulk] using b⟩
theorem OkA.list {ds : List PyData} (h : OkA ds) (b : PyData.bulkAll ds ≤ 3000) : OkD (.list ds) :=
  ⟨by simpa only [PyData.canLay0] using h.lay, by simp only [PyData.depth]; have := h.dep; omega, by simpa only [tellable] using h.tell, by simpa only [PyData.leavesShort] using h.short, by simpa only [PyData.bulk] using b⟩
theorem OkA.nil : OkA [] := ⟨by simp [PyData.canLayAll0], by simp [PyData.depthAll], by simp [tellableAll], by simp [PyData.leavesShortAll]⟩
theorem OkA.cons {d : PyData} {ds : List PyData} (h : OkD d) (hd : d.depth ≤ 49) (t : OkA ds) : OkA (d :: ds) :=
  ⟨by simp only [PyData.canLayAll0, h.lay, t.lay, Bool.and_self], by simp only [PyData.depthAll]; have := t.dep; omega, by simp only [tellableAll, h.tell, t.tell, Bool.and_self], by simp only [PyData.leavesShortAll, h.short, t.short, Bool.and_self]⟩
theorem OkD.int {i : Int} (h : i.natAbs < 10 ^ 4300) : OkD (.int i) := by
  refine ⟨by simp only [PyData.canLay0], by simp only [PyData.depth]; omega, ?_, ?_, by simp only [PyData.bulk]; omega⟩
  · simp only [tellable]
    exact decide_eq_true h
  · have e := int_text_length_le10 (k := 4300) (by decide) h
    simp only [PyData.leavesShort]
    refine decide_eq_true ?_
    show (Str.ofString (toString i)).length ≤ 4302
    rw [PySem.ofString_length]
    omega
theorem okA_ints : ∀ {ns : List Int}, (∀ n ∈ ns, n.natAbs < 10 ^ 4300) → OkA (dI ns)
  | [], _ => .nil
  | n :: ns, h => .cons (.int (h n List.mem_cons_self)) (by simp only [PyData.depth]; omega) (okA_ints fun m hm => h m (List.mem_cons_of_mem _ hm))
theorem bulk_ints : ∀ ns : List Int, PyData.bulkAll (dI ns) = ns.length
  | [] => by simp [dI, PyData.bulkAll]
  | n :: ns => by
    have ih := bulk_ints ns
    show PyData.bulkAll (PyData.int n :: dI ns) = ns.length + 1
    simp only [PyData.bulkAll, PyData.bulk, ih]
    omega
end SG
namespace SG
open PySem PySem.Spec PyProof.Rows L2
theorem canLay_mem : ∀ {ds : List PyData} {d : PyData}, PyData.canLayAll0 ds = true → d ∈ ds → d.canLay0 = true
  | x :: xs, d, h, m => by
    have h2 : x.canLay0 = true ∧ PyData.canLayAll0 xs = true := by simpa only [PyData.canLayAll0, Bool.and_eq_true] using h
    rcases List.mem_cons.mp m with e | m
    · rw [e]; exact h2.1
    · exact canLay_mem h2.2 m
theorem canLay_sub : ∀ {es ds : List PyData}, PyData.canLayAll0 ds = true → (∀ e ∈ es, e ∈ ds) → PyData.canLayAll0 es = true
  | [], _, _, _ => by simp only [PyData.canLayAll0]
  | e :: es, ds, h, s => by
    simp only [PyData.canLayAll0, canLay_mem h (s e List.mem_cons_self), canLay_sub (es := es) h fun x m => s x (List.mem_cons_of_mem _ m), Bool.and_self]
theorem depth_mem : ∀ {ds : List PyData} {d : PyData}, d ∈ ds → d.depth ≤ PyData.depthAll ds
  | x :: xs, d, m => by
    simp only [PyData.depthAll]
    rcases List.mem_cons.mp m with e | m
    · rw [e]; exact Nat.le_max_left _ _
    · exact Nat.le_trans (depth_mem m) (Nat.le_max_right _ _)
theorem depth_sub : ∀ {es ds : List PyData}, (∀ e ∈ es, e ∈ ds) → PyData.depthAll es ≤ PyData.depthAll ds
  | [], _, _ => by simp only [PyData.depthAll]; omega
  | e :: es, ds, s => by
    simp only [PyData.depthAll]
    exact Nat.max_le.mpr ⟨depth_mem (s e List.mem_cons_self), depth_sub fun x m => s x (List.mem_cons_of_mem _ m)⟩
theorem shaped_sub {es ds : List PyData} (h1 : PyData.canLayAll0 ds = true) (h2 : PyData.depthAll ds ≤ 60) (s : ∀ e ∈ es, e ∈ ds) : SeqAt.shaped (.list es) = true := by
  have a := canLay_sub h1 s
  have b := depth_sub s
  simp only [SeqAt.shaped, PyData.canLay0, PyData.depth, a, Bool.true_and]
  exact decide_eq_true (by omega)
theorem eqv_nil : ∀ ds : List PyData, PyData.eqv (.list ds) (.list []) = ds.isEmpty
  | [] => by simp [PyData.eqv, PyData.eqvAll]
  | d :: ds => by simp [PyData.eqv, PyData.eqvAll]
/-- a comprehension over a tuple of data that keeps those that p takes -/
theorem lc_tupF {K : PySem.W.Frag} {a D : Addr} {xs : List V} {ds : List PyData} {tt : TT} {s : Nat} {σ : L2.St} {H1 : Hp} {Qd : Hp → Prop} (p : PyData → Bool) (hn : xs.length ≤ 1000) (hD : H1 D = none) (hS : SqT K H1 a xs) (hX : DpAll K H1 xs ds) (hs : s < σ.length)
    (turn : ∀ (x : V) (d : PyData) (H2 : Hp), d ∈ ds → Dp K H2 x d → ∀ R : Bool → Hp → Prop, R (p d) H2 → tt ((wipe σ [s]).set s (some x)) H2 R)
    (done : ∀ (ys : List V) (H2 : Hp), Same H1 H2 → H2 D = some (.lst ys) → DpAll K H1 ys (ds.filter p) → Qd H2) :
    ∃ W : Nat → Nat → Hp → Prop, (∃ m, W 0 m (upd H1 D (.lst []))) ∧ ∀ i m H, W i m H →
      ((Itt K a).stop i H ∧ Qd H) ∨ ((Itt K a).go i H ∧ ∃ Nx : Hp → Prop, (∀ H2, Nx H2 → ∃ m2, m2 < m ∧ W (i + 1) m2 H2) ∧ ∀ x H2, (Itt K a).yld i H x H2 → gName s x (wipe σ [s]) H2 fun σ2 H3 => wipe σ2 [s] = wipe σ [s] ∧ tt σ2 H3 fun b H4 =>
        if b = true then tVar s σ2 H4 fun y H5 => ∃ acc, H5 D = some (.lst acc) ∧ acc.length < sizeLine ∧ Nx (upd H5 D (.lst (acc ++ [y]))) else Nx H4) := by
  refine lc_tup (xs := xs) (fun i H2 => Same H1 H2 ∧ ∃ ys, H2 D = some (.lst ys) ∧ DpAll K H1 ys ((ds.take i).filter p) ∧ ys.length ≤ i) ⟨same_new hD, [], upd_same, by simpa using DpAll.nil, Nat.le_refl _⟩ (fun i H2 _ q => sameT q.1 hS) ?_ ?_
  · rintro i x H2 hx ⟨sm, ys, h2, hY, hl⟩
    obtain ⟨d, h1, h3⟩ := dpA_get hX hx
    have hi : i < xs.length := (List.getElem?_eq_some_iff.mp hx).1
    have e1 : (ds.take (i + 1)).filter p = (ds.take i).filter p ++ (if p d = true then [d] else []) := by
      rw [List.take_add_one, h1]
      show ((ds.take i) ++ [d]).filter p = _
      rw [List.filter_append]
      congr 1
      by_cases e : p d = true <;> simp [e]
    refine ⟨wipe1 _ _ _, ?_⟩
    refine turn x d H2 (List.mem_of_getElem? h1) (dp_same sm h3) _ ?_
    by_cases e : p d = true
    · refine ifT e ⟨x, ?_, ys, h2, small1000 (by omega), same_upd_of sm hD, ys ++ [x], upd_same, ?_, by rw [List.length_append]; simpa using hl⟩
      · rw [List.getElem?_set_self (by rw [wipe_length]; exact hs)]
      · rw [e1, if_pos e]
        exact dpA_app hY (.cons h3 .nil)
    · refine ifF (by simpa using e) ⟨sm, ys, h2, ?_, by omega⟩
      rw [e1, if_neg e, List.append_nil]
      exact hY
  · rintro H2 ⟨sm, ys, h2, hY, hl⟩
    refine done ys H2 sm h2 ?_
    rw [dpA_len hX, List.take_length] at hY
    exact hY
end SG

/-! Calls by keywords alone. -/
namespace SG
open PySem PySem.Spec PyProof.Rows L2
def kwOne {α : Type} : List α → List α → List α
  | [], [a] => [a]
  | _, _ => []
/-- two keywords, in the other order -/
def kwTurn {α : Type} : List α → List α → List α
  | [], [b, a] => [a, b]
  | _, _ => []
theorem kwOne_rel {vs : List V} {us : List Value} {zs : List V} {ws : List Value} (a : Vals vs us) (b : Vals zs ws) : Vals (kwOne vs zs) (kwOne us ws) := by
  cases a with
  | nil =>
    cases b with
    | nil => exact .nil
    | cons r t =>
      cases t with
      | nil => exact .cons r .nil
      | cons _ _ => exact .nil
  | cons _ _ => exact .nil
theorem kwTurn_rel {vs : List V} {us : List Value} {zs : List V} {ws : List Value} (a : Vals vs us) (b : Vals zs ws) : Vals (kwTurn vs zs) (kwTurn us ws) := by
  cases a with
  | nil =>
    cases b with
    | nil => exact .nil
    | cons r t =>
      cases t with
      | nil => exact .nil
      | cons r2 t2 =>
        cases t2 with
        | nil => exact .cons r2 (.cons r .nil)
        | cons _ _ => exact .nil
  | cons _ _ => exact .nil
theorem kb_of {K : PySem.W.Frag} {x qn : Str} {st : Stmt} {f : Addr} {fd : FuncData} {ps ks : List Str} {g : List Value → List Value → List Value} {gV : List V → List V → List V} (F : Fun K x qn st f fd)
    (h : ∀ (kV doc pm : Value) (an : Option Addr) (cdv ct : Value) (us ws : List Value), (g us ws).length = ps.length → bindArgs (PySem.W.fnOf x qn (defArgs st) (defBody st) (defScope st) .none kV doc pm an cdv ct) ⟨us, ks.zip ws⟩ = pure (ps.zip (g us ws)))
    (rel : ∀ {vs : List V} {us : List Value} {zs : List V} {ws : List Value}, Vals vs us → Vals zs ws → Vals (gV vs zs) (g us ws)) : KBinds K fd ps ks g gV := by
  obtain ⟨oc, od, kV, doc, pm, an, cdv, ct, osl, rfl, lk, hcd⟩ := F.ex
  exact ⟨fun s us ws _ hl => .of_eq (h kV doc pm an cdv ct us ws hl), rel⟩
end SG

/-! Data that stays while the deck is drawn from; small data. -/
namespace SG
open PySem PySem.Spec PyProof.Rows L2
section
variable {K : PySem.W.Frag} {d l : Addr} {c : Nat} {H H2 : Hp}
def St (K : PySem.W.Frag) (d l : Addr) (H : Hp) (x : V) (D : PyData) : Prop := ∀ H2, Kept d l H H2 → Dp K H2 x D
def StA (K : PySem.W.Frag) (d l : Addr) (H : Hp) (xs : List V) (ds : List PyData) : Prop := ∀ H2, Kept d l H H2 → DpAll K H2 xs ds
theorem St.at {x : V} {D : PyData} (h : St K d l H x D) : Dp K H x D := h H (Kept.refl _ _ _)
theorem St.mono {x : V} {D : PyData} (h : St K d l H x D) (k : Kept d l H H2) : St K d l H2 x D := fun H3 k3 => h H3 (k.trans k3)
theorem StA.mono {xs : List V} {ds : List PyData} (h : StA K d l H xs ds) (k : Kept d l H H2) : StA K d l H2 xs ds := fun H3 k3 => h H3 (k.trans k3)
theorem St.int (i : Int) : St K d l H (.int i) (.int i) := fun _ _ => .int i
theorem St.bl (b : Bool) : St K d l H (.bl b) (.bool b) := fun _ _ => .bl b
theorem St.str (t : Str) : St K d l H (.str t) (.str t) := fun _ _ => .str t
theorem St.non : St K d l H .non .none := fun _ _ => .non
theorem St.tup {a : Addr} {xs : List V} {ds : List PyData} (D : Deck H d l c) (h : SqT K H a xs) (t : StA K d l H xs ds) : St K d l H (.ref a) (.tuple ds) := fun H3 k => .tup (k.tup D h) (t H3 k)
theorem St.lst {a : Addr} {xs : List V} {ds : List PyData} (h : H a = some (.lst xs)) (n1 : a ≠ d) (n2 : a ≠ l) (t : StA K d l H xs ds) : St K d l H (.ref a) (.list ds) := fun H3 k => .lst (SqL.of (k _ _ h n1 n2)) (t H3 k)
theorem StA.nil : StA K d l H [] [] := fun _ _ => .nil
theorem StA.cons {x : V} {xs : List V} {D : PyData} {ds : List PyData} (a : St K d l H x D) (b : StA K d l H xs ds) : StA K d l H (x :: xs) (D :: ds) := fun H3 k => .cons (a H3 k) (b H3 k)
theorem StA.app {xs ys : List V} {ds es : List PyData} (a : StA K d l H xs ds) (b : StA K d l H ys es) : StA K d l H (xs ++ ys) (ds ++ es) := fun H3 k => dpA_app (a H3 k) (b H3 k)
theorem StA.ints (ns : List Int) : StA K d l H (ns.map V.int) (dI ns) := fun _ _ => dpInts ns
end
/-! ### small data -/
structure Sm (n b : Nat) (D : PyData) : Prop where
  lay : D.canLay0 = true
  dep : D.depth ≤ n
  tell : tellable D = true
  short : D.leavesShort 4302 = true
  bulk : D.bulk ≤ b
structure SmA (n b : Nat) (ds : List PyData) : Prop where
  lay : PyData.canLayAll0 ds = true
  dep : PyData.depthAll ds ≤ n
  tell : tellableAll ds = true
  short : PyData.leavesShortAll 4302 ds = true
  bulk : PyData.bulkAll ds ≤ b
theorem Sm.ok {n b : Nat} {D : PyData} (h : Sm n b D) (hn : n ≤ 50) (hb : b ≤ 3000) : OkD D := ⟨h.lay, Nat.le_trans h.dep hn, h.tell, h.short, Nat.le_trans h.bulk hb⟩
theorem Sm.mono {n b m e : Nat} {D : PyData} (h : Sm n b D) (hn : n ≤ m) (hb : b ≤ e) : Sm m e D := ⟨h.lay, Nat.le_trans h.dep hn, h.tell, h.short, Nat.le_trans h.bulk hb⟩
theorem SmA.mono {n b m e : Nat} {ds : List PyData} (h : SmA n b ds) (hn : n ≤ m) (hb : b ≤ e) : SmA m e ds := ⟨h.lay, Nat.le_trans h.dep hn, h.tell, h.short, Nat.le_trans h.bulk hb⟩
theorem SmA.tuple {n b : Nat} {ds : List PyData} (h : SmA n b ds) : Sm (n + 1) b (.tuple ds) :=
  ⟨by simpa only [PyData.canLay0] using h.lay, by simp only [PyData.depth]; have := h.dep; omega, by simpa only [tellable] using h.tell, by simpa only [PyData.leavesShort] using h.short, by simpa only [PyData.bulk] using h.bulk⟩
theorem SmA.list {n b : Nat} {ds : List PyData} (h : SmA n b ds) : Sm (n + 1) b (.list ds) :=
  ⟨by simpa only [PyData.canLay0] using h.lay, by simp only [PyData.depth]; have := h.dep; omega, by simpa only [tellable] using h.tell, by simpa only [PyData.leavesShort] using h.short, by simpa only [PyData.bulk] using h.bulk⟩
theorem SmA.nil (n : Nat) : SmA n 0 [] := ⟨by simp [PyData.canLayAll0], by simp [PyData.depthAll], by simp [tellableAll], by simp [PyData.leavesShortAll], by simp [PyData.bulkAll]⟩
theorem SmA.cons {n b e : Nat} {D : PyData} {ds : List PyData} (h : Sm n b D) (t : SmA n e ds) : SmA n (b + 1 + e) (D :: ds) :=
  ⟨by simp only [PyData.canLayAll0, h.lay, t.lay, Bool.and_self], by simp only [PyData.depthAll]; exact Nat.max_le.mpr ⟨h.dep, t.dep⟩, by simp only [tellableAll, h.tell, t.tell, Bool.and_self], by simp only [PyData.leavesShortAll, h.short, t.short, Bool.and_self],
    by simp only [PyData.bulkAll]; have := h.bulk; have := t.bulk; omega⟩
theorem SmA.app {n e : Nat} {es : List PyData} (t : SmA n e es) : ∀ {ds : List PyData} {b : Nat}, SmA n b ds → SmA n (b + e) (ds ++ es)
  | [], b, h => t.mono (Nat.le_refl _) (by omega)
  | D :: ds, b, h => by
    have l1 : D.canLay0 = true ∧ PyData.canLayAll0 ds = true := by simpa only [PyData.canLayAll0, Bool.and_eq_true] using h.lay
    have l2 : tellable D = true ∧ tellableAll ds = true := by simpa only [tellableAll, Bool.and_eq_true] using h.tell
    have l3 : D.leavesShort 4302 = true ∧ PyData.leavesShortAll 4302 ds = true := by simpa only [PyData.leavesShortAll, Bool.and_eq_true] using h.short
    have l4 : D.depth ≤ n ∧ PyData.depthAll ds ≤ n := by have := h.dep; simp only [PyData.depthAll] at this; exact Nat.max_le.mp this
    have l5 : D.bulk + 1 + PyData.bulkAll ds ≤ b := by have := h.bulk; simpa only [PyData.bulkAll] using this
    have z := SmA.app t (ds := ds) (b := PyData.bulkAll ds) ⟨l1.2, l4.2, l2.2, l3.2, Nat.le_refl _⟩
    exact (SmA.cons ⟨l1.1, l4.1, l2.1, l3.1, Nat.le_refl _⟩ z).mono (Nat.le_refl _) (by omega)
theorem Sm.int {i : Int} (h : i.natAbs < 10 ^ 4300) : Sm 0 0 (.int i) := by
  have z := OkD.int h
  exact ⟨z.lay, by simp [PyData.depth], z.tell, z.short, by simp [PyData.bulk]⟩
theorem SmA.ints : ∀ {ns : List Int}, (∀ n ∈ ns, n.natAbs < 10 ^ 4300) → SmA 0 ns.length (dI ns)
  | [], _ => .nil 0
  | n :: ns, h => (SmA.cons (Sm.int (h n List.mem_cons_self)) (SmA.ints fun m hm => h m (List.mem_cons_of_mem _ hm))).mono (Nat.le_refl _) (by simp; omega)
end SG

/-! The rows of rules: plain mathematics. -/
namespace SG
def atBack (r : List Int) (k : Nat) : Int := r.getD (r.length - 1 - k) 0
/-- the products, from a place on -/
def prodsFrom (r : List Int) : Nat → List Int → List Int
  | _, [] => []
  | k, c :: cs => c * atBack r k :: prodsFrom r (k + 1) cs
def nextT (cs r : List Int) : Int := (prodsFrom r 0 cs).sum
def grow (cs : List Int) : Nat → List Int → List Int
  | 0, r => r
  | n + 1, r => grow cs n (r ++ [nextT cs r])
/-- the first so many terms -/
def rowOf (fs cs : List Int) (n : Nat) : List Int := (grow cs (n - fs.length) fs).take n
theorem prodsFrom_len (r : List Int) : ∀ (cs : List Int) (k : Nat), (prodsFrom r k cs).length = cs.length
  | [], _ => rfl
  | c :: cs, k => congrArg (· + 1) (prodsFrom_len r cs (k + 1))
theorem prodsFrom_get (r : List Int) : ∀ (cs : List Int) (k i : Nat) (c : Int), cs[i]? = some c → (prodsFrom r k cs)[i]? = some (c * atBack r (k + i))
  | [], _, _, _, h => by simp at h
  | c :: cs, k, 0, x, h => by
    simp at h
    subst h
    simp [prodsFrom]
  | c :: cs, k, i + 1, x, h => by
    have z := prodsFrom_get r cs (k + 1) i x (by simpa using h)
    show (prodsFrom r (k + 1) cs)[i]? = _
    rw [z, Nat.add_right_comm, Nat.add_assoc]
/-- the factors that are not 0, with their distances -/
def tapsFrom : Nat → List Int → List (Nat × Int)
  | _, [] => []
  | k, c :: cs => if c = 0 then tapsFrom (k + 1) cs else (k + 1, c) :: tapsFrom (k + 1) cs
def sumTaps (r : List Int) (ps : List (Nat × Int)) : List Int := ps.map fun p => p.2 * r.getD (r.length - p.1) 0
theorem taps_sum (r : List Int) : ∀ (cs : List Int) (k : Nat), (sumTaps r (tapsFrom k cs)).sum = (prodsFrom r k cs).sum
  | [], _ => rfl
  | c :: cs, k => by
    have ih := taps_sum r cs (k + 1)
    unfold tapsFrom prodsFrom
    by_cases h : c = 0
    · subst h
      rw [if_pos rfl, ih, List.sum_cons]
      simp
    · rw [if_neg h]
      show ((c * r.getD (r.length - (k + 1)) 0) :: sumTaps r (tapsFrom (k + 1) cs)).sum = _
      rw [List.sum_cons, List.sum_cons, ih]
      unfold atBack
      rw [Nat.sub_sub, Nat.add_comm 1 k]
theorem taps_le : ∀ (cs : List Int) (k : Nat), ∀ p ∈ tapsFrom k cs, k + 1 ≤ p.1 ∧ p.1 ≤ k + cs.length ∧ p.2 ∈ cs
  | [], _, p, h => by simp [tapsFrom] at h
  | c :: cs, k, p, h => by
    unfold tapsFrom at h
    have ih := taps_le cs (k + 1) p
    split at h
    · obtain ⟨a, b, d⟩ := ih h
      exact ⟨by omega, by simp; omega, List.mem_cons_of_mem _ d⟩
    · rcases List.mem_cons.mp h with e | h
      · subst e
        exact ⟨by simp, by simp, by simp⟩
      · obtain ⟨a, b, d⟩ := ih h
        exact ⟨by omega, by simp; omega, List.mem_cons_of_mem _ d⟩
theorem taps_len : ∀ (cs : List Int) (k : Nat), (tapsFrom k cs).length ≤ cs.length
  | [], _ => Nat.le_refl _
  | c :: cs, k => by
    have ih := taps_len cs (k + 1)
    unfold tapsFrom
    split <;> simp <;> omega
theorem grow_len (cs : List Int) : ∀ (n : Nat) (r : List Int), (grow cs n r).length = r.length + n
  | 0, r => rfl
  | n + 1, r => by
    unfold grow
    rw [grow_len cs n, List.length_append, List.length_singleton]
    omega
theorem grow_add (cs : List Int) : ∀ (n m : Nat) (r : List Int), grow cs (n + m) r = grow cs m (grow cs n r)
  | 0, m, r => by rw [Nat.zero_add]; rfl
  | n + 1, m, r => by
    rw [show n + 1 + m = (n + m) + 1 by omega]
    show grow cs (n + m) (r ++ [nextT cs r]) = grow cs m (grow cs n (r ++ [nextT cs r]))
    exact grow_add cs n m _
theorem grow_succ (cs : List Int) (n : Nat) (r : List Int) : grow cs (n + 1) r = grow cs n r ++ [nextT cs (grow cs n r)] := grow_add cs n 1 r
theorem grow_pre (cs : List Int) : ∀ (n : Nat) (r : List Int), (grow cs n r).take r.length = r
  | 0, r => List.take_length
  | n + 1, r => by
    rw [grow_succ, List.take_append_of_le_length (by rw [grow_len]; omega)]
    exact grow_pre cs n r
theorem rowOf_len (fs cs : List Int) (n : Nat) : (rowOf fs cs n).length = n := by
  unfold rowOf
  rw [List.length_take, grow_len]
  omega
theorem rowOf_take (fs cs : List Int) {n m : Nat} (h : n ≤ m) : (rowOf fs cs m).take n = rowOf fs cs n := by
  unfold rowOf
  rw [List.take_take, Nat.min_eq_left h]
  have e : m - fs.length = (n - fs.length) + (m - fs.length - (n - fs.length)) := by omega
  rw [e, grow_add]
  have z := grow_pre cs (m - fs.length - (n - fs.length)) (grow cs (n - fs.length) fs)
  rw [grow_len] at z
  have z2 := congrArg (List.take n) z
  rw [List.take_take, Nat.min_eq_left (by omega)] at z2
  exact z2
/-! ### how great they are -/
theorem natAbs_sum_le (B : Nat) : ∀ xs : List Int, (∀ x ∈ xs, x.natAbs ≤ B) → xs.sum.natAbs ≤ xs.length * B
  | [], _ => by simp
  | x :: xs, h => by
    have ih := natAbs_sum_le B xs fun y hy => h y (List.mem_cons_of_mem _ hy)
    have h1 := h x List.mem_cons_self
    rw [List.sum_cons, List.length_cons, Nat.add_mul, Nat.one_mul]
    have := Int.natAbs_add_le x xs.sum
    omega
theorem atBack_le {r : List Int} {B : Nat} (h : ∀ x ∈ r, x.natAbs ≤ B) (k : Nat) : (atBack r k).natAbs ≤ B := by
  unfold atBack
  rw [List.getD_eq_getElem?_getD]
  cases e : r[r.length - 1 - k]? with
  | none => simp
  | some x => exact h x (List.mem_of_getElem? e)
theorem prods_le {r : List Int} {B : Nat} (h : ∀ x ∈ r, x.natAbs ≤ B) : ∀ (cs : List Int) (k : Nat), (∀ c ∈ cs, c.natAbs ≤ 10 ^ 6) → ∀ y ∈ prodsFrom r k cs, y.natAbs ≤ 10 ^ 6 * B
  | [], _, _, y, hy => by simp [prodsFrom] at hy
  | c :: cs, k, hc, y, hy => by
    rcases List.mem_cons.mp hy with e | hy
    · subst e
      rw [Int.natAbs_mul]
      exact Nat.mul_le_mul (hc c List.mem_cons_self) (atBack_le h k)
    · exact prods_le h cs (k + 1) (fun x hx => hc x (List.mem_cons_of_mem _ hx)) y hy
theorem nextT_le {cs r : List Int} {B : Nat} (h : ∀ x ∈ r, x.natAbs ≤ B) (hc : ∀ c ∈ cs, c.natAbs ≤ 10 ^ 6) (hl : cs.length ≤ 8) : (nextT cs r).natAbs ≤ 10 ^ 7 * B := by
  have z := natAbs_sum_le (10 ^ 6 * B) (prodsFrom r 0 cs) (prods_le h cs 0 hc)
  rw [prodsFrom_len] at z
  refine Nat.le_trans z ?_
  rw [show 10 ^ 7 * B = 10 * (10 ^ 6 * B) by rw [← Nat.mul_assoc]]
  exact Nat.mul_le_mul_right _ (by omega)
theorem grow_le {cs : List Int} (hc : ∀ c ∈ cs, c.natAbs ≤ 10 ^ 6) (hl : cs.length ≤ 8) : ∀ (n : Nat) (r : List Int) (e : Nat), (∀ x ∈ r, x.natAbs ≤ 10 ^ e) → ∀ x ∈ grow cs n r, x.natAbs ≤ 10 ^ (e + 7 * n)
  | 0, r, e, h => h
  | n + 1, r, e, h => by
    unfold grow
    have z := grow_le hc hl n (r ++ [nextT cs r]) (e + 7) fun x hx => by
      rcases List.mem_append.mp hx with hx | hx
      · exact Nat.le_trans (h x hx) (Nat.pow_le_pow_right (by decide) (by omega))
      · rw [List.mem_singleton.mp hx, Nat.pow_add, Nat.mul_comm]
        exact nextT_le h hc hl
    intro x hx
    rw [show e + 7 * (n + 1) = e + 7 + 7 * n by omega]
    exact z x hx
theorem rowOf_le {fs cs : List Int} (hf : ∀ f ∈ fs, f.natAbs ≤ 10 ^ 12) (hc : ∀ c ∈ cs, c.natAbs ≤ 10 ^ 6) (hl : cs.length ≤ 8) {n : Nat} (hn : n ≤ 600) : ∀ x ∈ rowOf fs cs n, x.natAbs < 10 ^ 4300 := by
  intro x hx
  have z := grow_le hc hl (n - fs.length) fs 12 hf x (List.mem_of_mem_take hx)
  exact Nat.lt_of_le_of_lt z (Nat.pow_lt_pow_right (by decide) (by omega))
end SG

namespace SG
open PySem PySem.Spec PyProof.Rows L2
def topS (i : Nat) : Stmt := PySem.Challenge.pw_serialhouse_k12_rules_of_any_value.main.body.getD i (.Pass ⟨0, 0, 0, 0⟩)
abbrev s_is_integer : Stmt := topS 1
abbrev N_is_integer : List Str := ["thing"]
theorem sc_is_integer : FnScope N_is_integer ["thing"] (defScope s_is_integer) := ⟨rfl, rfl, rfl, by decide +kernel, rfl, by decide +kernel, by decide +kernel⟩
abbrev s_is_pair_of_tuples : Stmt := topS 2
abbrev N_is_pair_of_tuples : List Str := ["thing"]
theorem sc_is_pair_of_tuples : FnScope N_is_pair_of_tuples ["thing"] (defScope s_is_pair_of_tuples) := ⟨rfl, rfl, rfl, by decide +kernel, rfl, by decide +kernel, by decide +kernel⟩
abbrev s_is_tuple_of : Stmt := topS 3
abbrev N_is_tuple_of : List Str := ["thing", "many"]
theorem sc_is_tuple_of : FnScope N_is_tuple_of ["thing", "many"] (defScope s_is_tuple_of) := ⟨rfl, rfl, rfl, by decide +kernel, rfl, by decide +kernel, by decide +kernel⟩
abbrev s_is_rule : Stmt := topS 5
abbrev N_is_rule : List Str := ["thing", "number"]
theorem sc_is_rule : FnScope N_is_rule ["thing"] (defScope s_is_rule) := ⟨rfl, rfl, rfl, by decide +kernel, rfl, by decide +kernel, by decide +kernel⟩
abbrev s_terms : Stmt := topS 6
abbrev N_terms : List Str := ["rule", "many", "firsts", "factors", "taps", "row", "at", "factor", "back"]
theorem sc_terms : FnScope N_terms ["rule", "many"] (defScope s_terms) := ⟨rfl, rfl, rfl, by decide +kernel, rfl, by decide +kernel, by decide +kernel⟩
abbrev s_term : Stmt := topS 7
abbrev N_term : List Str := ["rule", "index"]
theorem sc_term : FnScope N_term ["rule", "index"] (defScope s_term) := ⟨rfl, rfl, rfl, by decide +kernel, rfl, by decide +kernel, by decide +kernel⟩
abbrev s__law_deck : Stmt := topS 9
abbrev N__law_deck : List Str := ["_law_script", "_law_cells", "_law_mixed", "_law_cell"]
theorem sc__law_deck : FnScope N__law_deck ["_law_script"] (defScope s__law_deck) := ⟨rfl, rfl, rfl, by decide +kernel, rfl, by decide +kernel, by decide +kernel⟩
abbrev s__law_draw : Stmt := topS 10
abbrev N__law_draw : List Str := ["_law_deck_here", "_law_bound", "_law_turn", "_law_cell", "_law_mixed"]
theorem sc__law_draw : FnScope N__law_draw ["_law_deck_here", "_law_bound"] (defScope s__law_draw) := ⟨rfl, rfl, rfl, by decide +kernel, rfl, by decide +kernel, by decide +kernel⟩
abbrev s__law_pick : Stmt := topS 11
abbrev N__law_pick : List Str := ["_law_deck_here", "_law_some"]
theorem sc__law_pick : FnScope N__law_pick ["_law_deck_here", "_law_some"] (defScope s__law_pick) := ⟨rfl, rfl, rfl, by decide +kernel, rfl, by decide +kernel, by decide +kernel⟩
abbrev s__law_rule : Stmt := topS 12
abbrev N__law_rule : List Str := ["_law_deck_here", "_law_top", "_law_many", "_law_some", "_law_factors", "_law_k"]
theorem sc__law_rule : FnScope N__law_rule ["_law_deck_here", "_law_top"] (defScope s__law_rule) := ⟨rfl, rfl, rfl, by decide +kernel, rfl, by decide +kernel, by decide +kernel⟩
abbrev s__law_terms : Stmt := topS 13
abbrev N__law_terms : List Str := ["_law_rule_here", "_law_many", "_law_found", "_law_first", "_law_k", "_law_factor"]
theorem sc__law_terms : FnScope N__law_terms ["_law_rule_here", "_law_many"] (defScope s__law_terms) := ⟨rfl, rfl, rfl, by decide +kernel, rfl, by decide +kernel, by decide +kernel⟩
abbrev s__law_wide : Stmt := topS 14
abbrev N__law_wide : List Str := ["_law_deck_here", "_law_many", "_law_some", "_law_far", "_law_k"]
theorem sc__law_wide : FnScope N__law_wide ["_law_deck_here"] (defScope s__law_wide) := ⟨rfl, rfl, rfl, by decide +kernel, rfl, by decide +kernel, by decide +kernel⟩
abbrev s__law_is_right : Stmt := topS 15
abbrev N__law_is_right : List Str := ["_law_it", "_law_part", "_law_n"]
theorem sc__law_is_right : FnScope N__law_is_right ["_law_it"] (defScope s__law_is_right) := ⟨rfl, rfl, rfl, by decide +kernel, rfl, by decide +kernel, by decide +kernel⟩
abbrev s__law_bent : Stmt := topS 16
abbrev N__law_bent : List Str := ["_law_deck_here", "_law_it", "_law_way", "_law_firsts", "_law_factors", "_law_odd", "_law_at"]
theorem sc__law_bent : FnScope N__law_bent ["_law_deck_here", "_law_it"] (defScope s__law_bent) := ⟨rfl, rfl, rfl, by decide +kernel, rfl, by decide +kernel, by decide +kernel⟩
abbrev s__law_is_so : Stmt := topS 17
abbrev N__law_is_so : List Str := ["_law_it", "_law_was", "_law_due"]
theorem sc__law_is_so : FnScope N__law_is_so ["_law_it"] (defScope s__law_is_so) := ⟨rfl, rfl, rfl, by decide +kernel, rfl, by decide +kernel, by decide +kernel⟩
abbrev s_law : Stmt := topS 18
abbrev N_law : List Str := ["_law_script", "_law_deck_here", "_law_some", "_law_go", "_law_rule_here", "_law_many", "_law_row", "_law_index", "_law_it"]
theorem sc_law : FnScope N_law ["_law_script"] (defScope s_law) := ⟨rfl, rfl, rfl, by decide +kernel, rfl, by decide +kernel, by decide +kernel⟩
structure Txt (mg : Str → Option Value) : Prop where
  all : mg "all" = none
  bool : mg "bool" = none
  enumerate : mg "enumerate" = none
  int : mg "int" = none
  isinstance : mg "isinstance" = none
  len : mg "len" = none
  list : mg "list" = none
  max : mg "max" = none
  range : mg "range" = none
  repr : mg "repr" = none
  sum : mg "sum" = none
  tuple : mg "tuple" = none
section
variable {P : Program} {w : World} {K : PySem.W.Frag} {mg : Str → Option Value} {base : Heap}

def spDraw : Sp := fun vs H Q _ => ∃ (d l : Addr) (c : Nat) (k : Int), vs = [.ref d, .int k] ∧ Deck H d l c ∧ c < 1000000 ∧ 0 < k ∧ k < 1073741824 ∧
  ∀ (r : Int) (H2 : Hp), 0 ≤ r → r < k → Deck H2 d l (c + 1) → Kept d l H H2 → Q (.int r) H2
theorem ok_draw {f : Addr} {fd : FuncData} (F : Fun K "_law_draw" "_law_draw" s__law_draw f fd) (T : Txt mg) : GFn P w K mg base CX0 1 f fd ["_law_deck_here", "_law_bound"] spDraw := by
  refine gfun_ok F sc__law_draw (fun vs H Q E h => ?_) (fun cdv A outer s H vs Q E hgu hr h => ?_)
  · obtain ⟨d, l, c, k, rfl, _⟩ := h
    rfl
  · obtain ⟨d, l, c, k, rfl, D, hc, k0, k1', q⟩ := h
    have nd := sc__law_draw.nd
    refine ⟨_, (pss_cons (ps_dput (hu_of hr) (pv 0) pe_str (pe_op op_add (pe_dget (hu_of hr) (pv 0) pe_str (fun _ _ => rfl)) pe_int) rfl)
      (pss_cons (ps_par (i := 2) (j := 3) rfl nd rfl rfl (by decide) rfl rfl (pa_cons (pe_dget (hu_of hr) (pv 0) pe_str (fun _ _ => rfl)) (pa_cons (pe_dget (hu_of hr) (pv 0) pe_str (fun _ _ => rfl)) pa_nil)) (by rfl))
      (C8.pss_cut (ps_if (pt_cmpR (k_neD (K := K) hr.units) (pe_dget (hu_of hr) (pv 0) pe_str (fun _ _ => rfl)) (pe_lst pa_nil) (nomark _)) (pss_cons (ps_set (i := 3) nd rfl (Or.inl rfl) (pe_bm0 PySem.F.plainAttrs_list PySem.F.slot_list_pop PySem.F.type_list_pop mt_pop (pe_dget (hu_of hr) (pv 0) pe_str (fun _ _ => rfl))))
      (pss_cons (ps_if (pt_cmpR op_ge (pv 3) (pe_op op_pow pe_int pe_int) (nomark _)) (pss_cons (ps_expr (pe_bm PySem.F.plainAttrs_list PySem.F.slot_list_append PySem.F.type_list_append mt_append (pe_dget (hu_of hr) (pv 0) pe_str (fun _ _ => rfl)) (pa_cons (pe_op op_fdiv (pv 3) (pv 1)) pa_nil)))
      (pss_one (ps_ret (pe_op op_mod (pe_callTy call_int1 (by rfl) T.int (by decide +kernel) (pa_cons (pv 3) pa_nil)) (pv 1))))) pss_nil)
      (pss_one (ps_set (i := 3) nd rfl (Or.inl rfl) (pe_op op_add (pv 3) (pe_dget (hu_of hr) (pv 0) pe_str (fun _ _ => rfl))))))) pss_nil)
      (pss_cons (ps_set (i := 4) nd rfl (Or.inl rfl) (pe_op op_mod (pe_op op_mul (pe_callTy call_int1 (by rfl) T.int (by decide +kernel) (pa_cons (pe_op op_add (pe_op op_add (pe_op op_mod (pe_callTy call_int1 (by rfl) T.int (by decide +kernel) (pa_cons (pv 3) pa_nil)) pe_int) (pe_op op_mul (pe_op op_mul pe_int (pv 2)) (pv 2))) pe_int) pa_nil)) pe_int) pe_int))
      (pss_cons (ps_set (i := 4) nd rfl (Or.inl rfl) (pe_op op_mod (pe_callTy call_int1 (by rfl) T.int (by decide +kernel) (pa_cons (pe_op op_add (pe_op op_add (pe_op op_mul (pv 4) (pv 4)) (pe_op op_mul pe_int (pv 2))) pe_int) pa_nil)) pe_int))
      (pss_one (ps_ret (pe_op op_mod (pe_op op_fdiv (pe_op op_mod (pe_callTy call_int1 (by rfl) T.int (by decide +kernel) (pa_cons (pe_op op_mul (pv 4) pe_int) pa_nil)) pe_int) pe_int) (pv 1))))))))), ?_⟩
    obtain ⟨cs, m, n, hd, hl, hm, hn, hcs⟩ := D
    have dl : d ≠ l := ne_of hd hl nofun
    -- the count goes on
    refine ⟨_, rfl, d, _, rfl, dgDraws hd, _, _, rfl, rfl, _, rfl, d, _, rfl, dpDraws (n + 1) hd, ?_⟩
    have hd1 : upd H d (.dK (deckO l m (n + 1))) d = some (.dK (deckO l m (n + 1))) := upd_same
    have hl1 : upd H d (.dK (deckO l m (n + 1))) l = some (.lst (cs.map V.int)) := by rw [upd_ne dl.symm]; exact hl
    have k1 : Kept d l H (upd H d (.dK (deckO l m (n + 1)))) := fun b o e h1 _ => by rw [upd_ne h1]; exact e
    generalize upd H d (.dK (deckO l m (n + 1))) = H1 at hd1 hl1 k1 ⊢
    refine ⟨_, rfl, d, _, rfl, dgDraws hd1, _, rfl, d, _, rfl, dgMixed hd1, _, _, rfl, ?_⟩
    -- the cell that is left, if there is one; behind it what stands
    refine ⟨fun σ' H' => ∃ (x : Int) (y4 : Option V), σ' = [some (.ref d), some (.int k), some (.int (n + 1)), some (.int x), y4] ∧ Kept d l H H' ∧ H' d = some (.dK (deckO l m (n + 1))) ∧ ∃ cs2 : List Int, H' l = some (.lst (cs2.map V.int)) ∧ cs2.length ≤ 63, ?_, ?_⟩
    · refine ⟨_, rfl, d, _, rfl, dgCells hd1, ?_⟩
      refine ⟨Nat.zero_le _, fun p np => ?_⟩
      have hd2 : upd H1 p (.lst []) d = some (.dK (deckO l m (n + 1))) := by rw [upd_ne (ne_of_none hd1 np)]; exact hd1
      have hl2 : upd H1 p (.lst []) l = some (.lst (cs.map V.int)) := by rw [upd_ne (ne_of_none hl1 np)]; exact hl1
      have k2 : Kept d l H (upd H1 p (.lst [])) := k1.trans (.of (same_new np))
      refine ⟨.list (dI cs), .list [], .lst (SqL.of hl2) (dpInts cs), .lst (SqL.of upd_same) .nil, shI cs, rfl, ?_⟩
      generalize upd H1 p (.lst []) = H2 at hd2 hl2 k2 ⊢
      refine ⟨!cs.isEmpty, by rw [eqvI_nil], ?_⟩
      rcases List.eq_nil_or_concat cs with rfl | ⟨c0, z, rfl⟩
      · exact iteF ⟨m, none, rfl, k2, hd2, [], hl2, by simp⟩
      · rw [List.concat_eq_append] at hl2 hcs ⊢
        refine ifT (by simp) ?_
        have hl3 : upd H2 l (.lst (c0.map V.int)) l = some (.lst (c0.map V.int)) := upd_same
        have hd3 : upd H2 l (.lst (c0.map V.int)) d = some (.dK (deckO l m (n + 1))) := by rw [upd_ne dl]; exact hd2
        have k3 : Kept d l H (upd H2 l (.lst (c0.map V.int))) := k2.trans fun b o e _ h2 => by rw [upd_ne h2]; exact e
        have el : ((c0 ++ [z]).map V.int).dropLast = c0.map V.int := by simp
        have ey : ((c0 ++ [z]).map V.int)[((c0 ++ [z]).map V.int).length - 1]? = some (.int z) := by simp
        -- the last cell is taken
        refine ⟨_, rfl, d, _, rfl, dgCells hd2, .inl ⟨rfl, _, SqL.of hl2⟩, l, _, _, rfl, rfl, hl2, ey, ?_⟩
        rw [el]
        generalize upd H2 l (.lst (c0.map V.int)) = H3 at hd3 hl3 k3 ⊢
        refine ⟨_, rfl, _, _, rfl, rfl, ⟨by decide, by decide, by decide⟩, _, _, rfl, rfl, _, rfl, ite2 (fun _ => ?_) (fun _ => ?_)⟩
        · refine ⟨_, rfl, d, _, rfl, dgCells hd3, .inl ⟨rfl, _, SqL.of hl3⟩, _, rfl, _, rfl, _, _, rfl, rfl, ⟨k0, k1'⟩, l, _, _, rfl, rfl, hl3, ?_, ?_⟩
          · rw [List.length_map]
            exact Nat.lt_of_lt_of_le (Nat.lt_succ_of_le (by simp at hcs; omega : c0.length ≤ 62)) (by decide)
          · have k4 : Kept d l H (upd H3 l (.lst (c0.map V.int ++ [.int (z / k)]))) := k3.trans fun b o e _ h2 => by rw [upd_ne h2]; exact e
            refine ⟨_, rfl, .inl ⟨_, rfl, _, rfl, _, _, rfl, rfl, k0, ?_⟩⟩
            refine q _ _ (mod_lo k0) (mod_hi k0) ⟨c0 ++ [z / k], m, n + 1, by rw [upd_ne dl]; exact hd3, by rw [upd_same, List.map_append]; rfl, hm, ⟨by omega, by omega⟩, ?_⟩ k4
            simp at hcs ⊢
            omega
        · refine ⟨_, rfl, _, rfl, d, _, rfl, dgMixed hd3, _, _, rfl, rfl, ?_⟩
          exact ⟨z + m, none, rfl, k3, hd3, c0, hl3, by simp at hcs; omega⟩
    · rintro σ' H3 ⟨x, y4, rfl, k3, h3, cs2, h4, h5⟩
      have t1 : 0 < n + 1 := by omega
      have t2 : n + 1 ≤ 1000000 := by omega
      have u0 := mod_lo (a := x) (b := 2147483629) (by decide)
      have u1 := mod_hi (a := x) (b := 2147483629) (by decide)
      have t3 : n + 1 ≤ ((c + 1 : Nat) : Int) := by omega
      generalize n + 1 = t at t1 t2 t3 h3 ⊢
      have v0 : 0 ≤ t * t := Int.mul_nonneg (by omega) (by omega)
      have v1 : t * t ≤ 1000000 * 1000000 := Int.mul_le_mul t2 t2 (by omega) (by omega)
      have v2 : 60637 * t * t = 60637 * (t * t) := Int.mul_assoc _ _ _
      refine ⟨_, rfl, .inl ⟨_, rfl, _, _, rfl, rfl, (by show (0 : Int) < _; decide), _, rfl, _, _, rfl, rfl, .inl (by omega), _, rfl, _, _, rfl, rfl, .inl (by omega), _, _, rfl, rfl, _, _, rfl, rfl, .inl ⟨_, rfl, _, _, rfl, rfl, .inl ?_, _, _, rfl, rfl, (by show (0 : Int) < _; decide), ?_⟩⟩⟩
      · rw [v2]
        omega
      · have w0 := mod_lo (a := (x % 2147483629 + 60637 * t * t + 157) * 40692) (b := 2147483647) (by decide)
        have w1 := mod_hi (a := (x % 2147483629 + 60637 * t * t + 157) * 40692) (b := 2147483647) (by decide)
        generalize (x % 2147483629 + 60637 * t * t + 157) * 40692 % 2147483647 = g at w0 w1 ⊢
        refine ⟨_, rfl, _, rfl, _, _, rfl, rfl, .inl (by omega), _, rfl, _, _, rfl, rfl, .inl (by omega), _, _, rfl, rfl, _, _, rfl, rfl, .inl ⟨_, rfl, _, _, rfl, rfl, (by show (0 : Int) < _; decide), ?_⟩⟩
        have x0 := mod_lo (a := g * g + 39373 * t + 83) (b := 2147483587) (by decide)
        have x1 := mod_hi (a := g * g + 39373 * t + 83) (b := 2147483587) (by decide)
        generalize (g * g + 39373 * t + 83) % 2147483587 = e at x0 x1 ⊢
        refine ⟨_, rfl, _, _, rfl, rfl, .inl (by omega), .inl ⟨_, rfl, _, _, rfl, rfl, (by show (0 : Int) < _; decide), _, _, rfl, rfl, ⟨by decide, by decide⟩, _, rfl, _, _, rfl, rfl, k0, ?_⟩⟩
        exact q _ _ (mod_lo k0) (mod_hi k0) ⟨cs2, m, t, h3, h4, hm, ⟨by omega, t3⟩, h5⟩ k3
end
end SG

namespace SG
open PySem PySem.Spec PyProof.Rows L2
section
variable {P : Program} {w : World} {K : PySem.W.Frag} {mg : Str → Option Value} {base : Heap}

def spDeck (K : PySem.W.Frag) : Sp := fun vs H Q _ => ∃ (a : Addr) (ns : List Int), vs = [.ref a] ∧ SqL K H a (ns.map V.int) ∧ ns.length ≤ 63 ∧
  ∀ (d l : Addr) (H2 : Hp), Deck H2 d l 0 → Same H H2 → Q (.ref d) H2
theorem ok_deck {f : Addr} {fd : FuncData} (F : Fun K "_law_deck" "_law_deck" s__law_deck f fd) (T : Txt mg) : GFn P w K mg base CX0 1 f fd ["_law_script"] (spDeck K) := by
  refine gfun_ok F sc__law_deck (fun vs H Q E h => ?_) (fun cdv A outer s H vs Q E hgu hr h => ?_)
  · obtain ⟨a, ns, rfl, _⟩ := h
    rfl
  · obtain ⟨a, ns, rfl, hS, hlen, q⟩ := h
    have nd := sc__law_deck.nd
    refine ⟨_, (pss_cons (ps_par (i := 1) (j := 2) rfl nd rfl rfl (by decide) rfl rfl (pa_cons (pe_callTy (k_listOf (K := K)) (by rfl) T.list (by decide +kernel) (pa_cons (pe_slice (k_slL (K := K)) (pv 0) po_none (po_some pe_int)) pa_nil)) (pa_cons pe_int pa_nil)) (by rfl))
      (pss_cons (ps_for PassesOwn.never rfl (pi_list (pv 1)) (pg_name (i := 3) nd rfl (Or.inl rfl))
        (pss_one (ps_set (i := 2) nd rfl (Or.inl rfl) (pe_op op_mod (pe_callTy call_int1 (by rfl) T.int (by decide +kernel) (pa_cons (pe_op op_add (pe_op op_add (pe_op op_mul (pv 2) pe_int) (pe_op op_mod (pe_callTy call_int1 (by rfl) T.int (by decide +kernel) (pa_cons (pv 3) pa_nil)) pe_int)) pe_int) pa_nil)) pe_int))))
      (pss_one (ps_ret (pe_disp (pps_cons pe_str (k_rev (K := K) (pv 1)) (pps_cons pe_str (pv 2) (pps_cons pe_str pe_int pps_nil))) (by rfl) (by rfl) (fun z => by cases z) (by decide)))))), ?_⟩
    -- the script's copy
    refine ⟨.ref a, rfl, 63, rfl, a, _, rfl, hS, fun p np => ?_⟩
    have s1 : Same H (upd H p (.lst (cutV (ns.map V.int) none (some 63)))) := same_new np
    have e1 : cutV (ns.map V.int) none (some 63) = ns.map V.int := by
      unfold cutV
      rw [HT.sIx_none, show HT.sIx (ns.map V.int).length (ns.map V.int).length (some 63) = min 63 (ns.map V.int).length from HT.sIx_nat _ _ 63]
      rw [show min 63 (ns.map V.int).length = (ns.map V.int).length by rw [List.length_map]; omega]
      exact List.take_of_length_le (Nat.le_refl _)
    rw [e1] at s1 ⊢
    refine ⟨p, _, rfl, .inl (SqL.of upd_same), fun l nl => ?_⟩
    have s2 : Same H (upd (upd H p (.lst (ns.map V.int))) l (.lst (ns.map V.int))) := s1.trans (same_new nl)
    have hl : (upd (upd H p (.lst (ns.map V.int))) l (.lst (ns.map V.int))) l = some (.lst (ns.map V.int)) := upd_same
    generalize (upd (upd H p (.lst (ns.map V.int))) l (.lst (ns.map V.int))) = H1 at s2 hl ⊢
    refine ⟨_, _, rfl, ?_⟩
    -- the figure
    refine ⟨_, rfl, l, rfl, ⟨_, SqL.of hl⟩, for_list (K := K) (a := l) (xs := ns.map V.int) (fun i σ H2 => ∃ (m : Int) (y : Option V), σ = [some (.ref a), some (.ref l), some (.int m), y] ∧ (0 ≤ m ∧ m < 2147483648) ∧ H2 = H1)
      ⟨10865012, none, rfl, ⟨by decide, by decide⟩, rfl⟩ (fun i σ H2 _ ⟨_, _, _, _, e⟩ => e ▸ SqL.of hl) ?_ ?_⟩
    · rintro i y σ H2 hi ⟨m, y3, rfl, hm, rfl⟩
      obtain ⟨z, rfl⟩ : ∃ z, y = V.int z := by
        rw [List.getElem?_map] at hi
        obtain ⟨z, _, e⟩ := Option.map_eq_some_iff.mp hi
        exact ⟨z, e.symm⟩
      have u0 := mod_lo (a := z) (b := 2147483629) (by decide)
      have u1 := mod_hi (a := z) (b := 2147483629) (by decide)
      refine ⟨_, rfl, _, _, rfl, rfl, .inl (by omega), _, rfl, .inl ⟨_, rfl, _, _, rfl, rfl, (by show (0 : Int) < _; decide), _, _, rfl, rfl, _, _, rfl, rfl, .inl ⟨_, rfl, _, _, rfl, rfl, (by show (0 : Int) < _; decide), ?_⟩⟩⟩
      exact ⟨_, _, rfl, ⟨mod_lo (by decide), Int.lt_trans (mod_hi (by decide)) (by decide)⟩, rfl⟩
    · rintro σ H2 ⟨m, y3, rfl, hm, rfl⟩
      -- the deck
      refine fun d nd1 => ?_
      have t2 : Same H (upd H2 d (.dK [])) := s2.trans (same_new nd1)
      have hl3 : (upd H2 d (.dK [])) l = some (.lst (ns.map V.int)) := by rw [upd_ne (ne_of_none hl nd1)]; exact hl
      have hd3 : (upd H2 d (.dK [])) d = some (.dK []) := upd_same
      generalize upd H2 d (.dK []) = H3 at t2 hl3 hd3 ⊢
      refine ⟨.ref l, rfl, l, _, rfl, SqL.of hl3, fun r nr => ?_⟩
      have t4 : Same H (upd H3 r (.lst (ns.map V.int).reverse)) := t2.trans (same_new nr)
      have hd4 : (upd H3 r (.lst (ns.map V.int).reverse)) d = some (.dK []) := by rw [upd_ne (ne_of_none hd3 nr)]; exact hd3
      have hr4 : (upd H3 r (.lst (ns.map V.int).reverse)) r = some (.lst (ns.reverse.map V.int)) := by rw [upd_same, List.map_reverse]
      have nd0 : H d = none := s2.free nd1
      have nr0 : r ≠ d := (ne_of_none hd3 nr).symm
      generalize upd H3 r (.lst (ns.map V.int).reverse) = H4 at t4 hd4 hr4 ⊢
      refine ⟨_, rfl, hd4, deckO r m 0, rfl, (by show 3 ≤ 15; decide), ?_⟩
      rw [deck_made]
      refine q d r _ ⟨ns.reverse, m, 0, upd_same, by rw [upd_ne nr0]; exact hr4, hm, ⟨by decide, by decide⟩, by rw [List.length_reverse]; exact hlen⟩ fun b o e => ?_
      rw [upd_ne (ne_of_none e nd0)]
      exact t4 _ _ e

/-- one of a list's -/
def spPick (K : PySem.W.Frag) : Sp := fun vs H Q _ => ∃ (d l a : Addr) (c : Nat) (xs : List V), vs = [.ref d, .ref a] ∧ Deck H d l c ∧ c < 1000000 ∧ SqL K H a xs ∧ a ≠ l ∧ xs ≠ [] ∧ xs.length ≤ 1000 ∧
  ∀ (x : V) (H2 : Hp), x ∈ xs → Deck H2 d l (c + 1) → Kept d l H H2 → Q x H2
theorem ok_pick {f f1 : Addr} {fd fd1 : FuncData} (F : Fun K "_law_pick" "_law_pick" s__law_pick f fd) (F__law_draw : Fun K "_law_draw" "_law_draw" s__law_draw f1 fd1) (m__law_draw : mg "_law_draw" = some (.ref f1)) (b__law_draw : Binds K fd1 ["_law_deck_here", "_law_bound"] []) (T : Txt mg) : GFn P w K mg base CX0 2 f fd ["_law_deck_here", "_law_some"] (spPick K) := by
  have G__law_draw : GFn P w K mg base CX0 1 f1 fd1 ["_law_deck_here", "_law_bound"] spDraw := ok_draw F__law_draw T
  refine gfun_ok F sc__law_pick (fun vs H Q E h => ?_) (fun cdv A outer s H vs Q E hgu hr h => ?_)
  · obtain ⟨d, l, a, c, xs, rfl, _⟩ := h
    rfl
  · obtain ⟨d, l, a, c, xs, rfl, D, hc, hS, al, ne, hlen, q⟩ := h
    have nd := sc__law_pick.nd
    have pos : 0 < xs.length := List.length_pos_iff.mpr ne
    refine ⟨_, (pss_one (ps_ret (pe_ix (k_ixL (K := K)) (pv 1) (pe_g G__law_draw hgu (hr.mono (by decide)) (by rfl) m__law_draw F__law_draw.kp b__law_draw .nil pass0 (pa_cons (pv 0) (pa_cons (pe_callB (k_len (K := K)) (by rfl) T.len PySem.boot_len (pa_cons (pv 1) pa_nil)) pa_nil))) (fun _ _ => rfl)))), ?_⟩
    refine ⟨_, rfl, _, rfl, _, rfl, a, _, rfl, .inl hS, d, l, c, _, rfl, D, hc, by omega, by omega, fun r H2 r0 r1 D2 k2 => ?_⟩
    have hS2 := k2.lst D al hS
    obtain ⟨i, rfl⟩ : ∃ i : Nat, r = (i : Int) := ⟨r.toNat, by omega⟩
    have hi : i < xs.length := by omega
    exact ⟨a, xs, i, xs[i], rfl, rfl, hS2, atI_nat (List.getElem?_eq_getElem hi), q _ _ (List.getElem_mem hi) D2 k2⟩
end
end SG

namespace SG
open PySem PySem.Spec PyProof.Rows L2
section
variable {P : Program} {w : World} {K : PySem.W.Frag} {mg : Str → Option Value} {base : Heap}

/-- a pair of two tuples of ints -/
def RuleAt (K : PySem.W.Frag) (H : Hp) (v : V) (fs cs : List Int) : Prop :=
  ∃ a b c, v = .ref a ∧ SqT K H a [.ref b, .ref c] ∧ SqT K H b (fs.map V.int) ∧ SqT K H c (cs.map V.int)
def Fit (fs cs : List Int) : Prop := fs.length = cs.length ∧ fs.length ≤ 8 ∧ (∀ f ∈ fs, f.natAbs ≤ 10 ^ 12) ∧ ∀ c ∈ cs, c.natAbs ≤ 10 ^ 6
/-- the numbers of a written list -/
theorem mem_map_int {x : V} {ns : List Int} (h : x ∈ ns.map V.int) : ∃ n ∈ ns, x = .int n := by
  obtain ⟨n, hn, e⟩ := List.mem_map.mp h
  exact ⟨n, hn, e.symm⟩

theorem RuleAt.made {H : Hp} {b c p : Addr} {fs cs : List Int} (nb : H b = none) (nc : (upd H b (.tup (fs.map V.int))) c = none) (np : (upd (upd H b (.tup (fs.map V.int))) c (.tup (cs.map V.int))) p = none) :
    RuleAt K (upd (upd (upd H b (.tup (fs.map V.int))) c (.tup (cs.map V.int))) p (.tup [.ref b, .ref c])) (.ref p) fs cs := by
  refine ⟨p, b, c, rfl, .inl (.inl upd_same), ?_, ?_⟩
  · have e1 : (upd (upd H b (.tup (fs.map V.int))) c (.tup (cs.map V.int))) b = some (.tup (fs.map V.int)) := by
      rw [upd_ne (ne_of_none upd_same nc)]
      exact upd_same
    exact .inl (.inl (by rw [upd_ne (ne_of_none e1 np)]; exact e1))
  · exact .inl (.inl (by rw [upd_ne (ne_of_none upd_same np)]; exact upd_same))
def spRule : Sp := fun vs H Q _ => ∃ (d l : Addr) (c : Nat), vs = [.ref d, .int 8] ∧ Deck H d l c ∧ c < 900000 ∧
  ∀ (v : V) (H2 : Hp) (fs cs : List Int), Fit fs cs → RuleAt K H2 v fs cs → Deck H2 d l (c + 17) → Kept d l H H2 → Q v H2
theorem ok_rule {f f1 f2 : Addr} {fd fd1 fd2 : FuncData} (F : Fun K "_law_rule" "_law_rule" s__law_rule f fd) (F__law_draw : Fun K "_law_draw" "_law_draw" s__law_draw f1 fd1) (m__law_draw : mg "_law_draw" = some (.ref f1)) (b__law_draw : Binds K fd1 ["_law_deck_here", "_law_bound"] [])
    (F__law_pick : Fun K "_law_pick" "_law_pick" s__law_pick f2 fd2) (m__law_pick : mg "_law_pick" = some (.ref f2)) (b__law_pick : Binds K fd2 ["_law_deck_here", "_law_some"] []) (T : Txt mg) : GFn P w K mg base CX0 3 f fd ["_law_deck_here", "_law_top"] (spRule (K := K)) := by
  have G__law_draw : GFn P w K mg base CX0 1 f1 fd1 ["_law_deck_here", "_law_bound"] spDraw := ok_draw F__law_draw T
  have G__law_pick : GFn P w K mg base CX0 2 f2 fd2 ["_law_deck_here", "_law_some"] (spPick K) := ok_pick F__law_pick F__law_draw m__law_draw b__law_draw T
  refine gfun_ok F sc__law_rule (fun vs H Q E h => ?_) (fun cdv A outer s H vs Q E hgu hr h => ?_)
  · obtain ⟨d, l, c, rfl, _⟩ := h
    rfl
  · obtain ⟨d, l, c, rfl, D, hc, q⟩ := h
    have nd := sc__law_rule.nd
    refine ⟨_, (pss_cons (ps_asg (pe_tup (pa_cons (pe_g G__law_draw hgu (hr.mono (by decide)) (by rfl) m__law_draw F__law_draw.kp b__law_draw .nil pass0 (pa_cons (pv 0) (pa_cons (pe_op op_add (pv 1) pe_int) pa_nil))) (pa_cons (pe_lst (pa_cons pe_int (pa_cons pe_int (pa_cons (pe_un un_neg pe_int) (pa_cons pe_int (pa_cons pe_int (pa_cons pe_int (pa_cons pe_int (pa_cons (pe_un un_neg pe_int) pa_nil))))))))) pa_nil))) (k_tg (K := K) rfl (pgs_cons (pg_name (i := 2) nd rfl (Or.inl rfl)) (pgs_cons (pg_name (i := 3) nd rfl (Or.inr rfl)) pgs_nil))))
      (pss_cons (ps_setLc (i := 4) (own := [("_law_k", 5)]) rfl nd rfl rfl (sw_true rfl rfl rfl (by decide +kernel)) (pi_range1 rfl T.range (pa_cons (pv 2) pa_nil)) (blkOk_by (N := N__law_rule) (sc := defScope s__law_rule) (by decide +kernel)) (fun _ _ _ _ _ => (pg_name (i := 5) nd rfl (Or.inl rfl))) (fun _ _ _ _ _ => pts_nil) (fun _ _ _ _ _ => (pe_g G__law_pick hgu (hr.mono (by decide)) (by rfl) m__law_pick F__law_pick.kp b__law_pick .nil pass0 (pa_cons (pv 0) (pa_cons (pv 3) pa_nil)))))
      (pss_one (ps_ret (pe_tup (pa_cons (pe_callTy (k_tupOf (K := K)) (by rfl) T.tuple (by decide +kernel) (pa_cons (pe_lc (own := [("_law_k", 5)]) rfl nd (pi_range1 rfl T.range (pa_cons (pv 2) pa_nil)) (blkOk_by (N := N__law_rule) (sc := defScope s__law_rule) (by decide +kernel)) (fun _ _ _ _ _ => (pg_name (i := 5) nd rfl (Or.inl rfl))) (fun _ _ _ _ _ => pts_nil) (fun _ _ _ _ _ => (pe_g G__law_pick hgu (hr.mono (by decide)) (by rfl) m__law_pick F__law_pick.kp b__law_pick .nil pass0 (pa_cons (pv 0) (pa_cons (pe_lst (pa_cons pe_int (pa_cons pe_int (pa_cons pe_int (pa_cons pe_int (pa_cons (pe_un un_neg pe_int) (pa_cons pe_int (pa_cons pe_int pa_nil)))))))) pa_nil))))) pa_nil)) (pa_cons (pe_callTy (k_tupOf (K := K)) (by rfl) T.tuple (by decide +kernel) (pa_cons (pv 4) pa_nil)) pa_nil))))))), ?_⟩
    refine ⟨_, rfl, _, rfl, _, _, rfl, rfl, d, l, c, _, rfl, D, by omega, by decide, by decide, fun r H1 r0 r1 D1 k1 => ?_⟩
    -- the list that is picked from
    refine ⟨1, rfl, 2, rfl, by decide, fun a na => ?_⟩
    obtain ⟨ad, al⟩ := D1.ne na
    have hA : (upd H1 a (.lst ([0, 1, -1, 2, 1, 0, 3, -2].map V.int))) a = some (.lst ([0, 1, -1, 2, 1, 0, 3, -2].map V.int)) := upd_same
    refine ⟨(by show 2 ≤ sizeLine; decide), fun t nt => ?_⟩
    have nt' : (upd H1 a (.lst ([0, 1, -1, 2, 1, 0, 3, -2].map V.int))) t = none := nt
    have D3 : Deck (upd (upd H1 a (.lst ([0, 1, -1, 2, 1, 0, 3, -2].map V.int))) t (.tup [.int r, .ref a])) d l (c + 1) := (D1.upd na).upd nt'
    have k3 : Kept d l H (upd (upd H1 a (.lst ([0, 1, -1, 2, 1, 0, 3, -2].map V.int))) t (.tup [.int r, .ref a])) := (k1.trans (.of (same_new na))).trans (.of (same_new nt'))
    have hA3 : (upd (upd H1 a (.lst ([0, 1, -1, 2, 1, 0, 3, -2].map V.int))) t (.tup [.int r, .ref a])) a = some (.lst ([0, 1, -1, 2, 1, 0, 3, -2].map V.int)) := by
      rw [upd_ne (ne_of_none hA nt')]
      exact hA
    refine ⟨t, _, rfl, .inl (.inl upd_same), rfl, _, _, rfl, _, _, rfl, rfl, ?_⟩
    -- the factors
    refine ⟨_, rfl, r, rfl, by omega, by omega, fun e ne => ?_⟩
    refine lc_draws (B := fun x => x.natAbs ≤ 3) D3 ne (by omega) (fun i H4 hi D4 k4 R hR => ?_) (fun xs H4 hx hB he D4 k4 => ?_)
    · refine ⟨_, rfl, _, rfl, d, l, a, c + 1 + i, _, rfl, D4, by omega, SqL.of (k4 _ _ hA3 ad al), al, by simp, by decide, fun x H5 hx D5 k5 => ?_⟩
      obtain ⟨n, hn, rfl⟩ := mem_map_int hx
      refine hR n H5 ?_ D5 k5
      simp at hn
      omega
    · -- the firsts
      have k4' : Kept d l H H4 := k3.trans k4
      refine ⟨_, rfl, r, rfl, by omega, by omega, fun g ng => ?_⟩
      refine lc_draws (B := fun x => x.natAbs ≤ 7) D4 ng (by omega) (fun i H5 hi D5 k5 R hR => ?_) (fun ys H5 hy hC hg D5 k5 => ?_)
      · refine ⟨_, rfl, 1, rfl, by decide, fun b nb => ?_⟩
        obtain ⟨bd, bl⟩ := D5.ne nb
        have hb : (upd H5 b (.lst ([0, 1, 1, 2, -1, 5, 7].map V.int))) b = some (.lst ([0, 1, 1, 2, -1, 5, 7].map V.int)) := upd_same
        have D6 : Deck (upd H5 b (.lst ([0, 1, 1, 2, -1, 5, 7].map V.int))) d l _ := D5.upd nb
        refine ⟨d, l, b, _, _, rfl, D6, by omega, SqL.of hb, bl, by simp, by decide, fun x H6 hx D7 k7 => ?_⟩
        obtain ⟨n, hn, rfl⟩ := mem_map_int hx
        refine hR n H6 ?_ D7 ((Kept.of (same_new nb)).trans k7)
        simp at hn
        omega
      · have he5 : H5 e = some (.lst (xs.map V.int)) := k5 _ _ he (D3.ne ne).1 (D3.ne ne).2
        have k5' : Kept d l H H5 := k4'.trans k5
        refine ⟨g, _, rfl, .inl ⟨SqL.of hg, fun b nb => ?_⟩⟩
        refine ⟨_, rfl, e, _, rfl, .inl ⟨SqL.of (by rw [upd_ne (ne_of_none he5 nb)]; exact he5), fun b2 nb2 => ?_⟩⟩
        refine ⟨(by show 2 ≤ sizeLine; decide), fun p np => ?_⟩
        refine q _ _ ys xs ⟨by omega, by omega, fun f hf => Nat.le_trans (hC f hf) (by decide), fun f hf => Nat.le_trans (hB f hf) (by decide)⟩ (RuleAt.made nb nb2 np) ((((D5.upd nb).upd nb2).upd np).mono (by omega)) ?_
        exact ((k5'.trans (.of (same_new nb))).trans (.of (same_new nb2))).trans (.of (same_new np))

def small12 : List Int := [999999, -999999, 0, 1, 100000, -7]
def far12 : List Int := [10 ^ (11 : Int).toNat, 999999999999, -1, 0, -(10 ^ (11 : Int).toNat), 5]
theorem small12_fit : ∀ n ∈ small12, n.natAbs ≤ 10 ^ 6 := by decide
theorem far12_fit : ∀ n ∈ far12, n.natAbs ≤ 10 ^ 12 := by decide +kernel
def spWide : Sp := fun vs H Q _ => ∃ (d l : Addr) (c : Nat), vs = [.ref d] ∧ Deck H d l c ∧ c < 900000 ∧
  ∀ (v : V) (H2 : Hp) (fs cs : List Int), Fit fs cs → RuleAt K H2 v fs cs → Deck H2 d l (c + 17) → Kept d l H H2 → Q v H2
theorem ok_wide {f f1 f2 : Addr} {fd fd1 fd2 : FuncData} (F : Fun K "_law_wide" "_law_wide" s__law_wide f fd) (F__law_draw : Fun K "_law_draw" "_law_draw" s__law_draw f1 fd1) (m__law_draw : mg "_law_draw" = some (.ref f1)) (b__law_draw : Binds K fd1 ["_law_deck_here", "_law_bound"] [])
    (F__law_pick : Fun K "_law_pick" "_law_pick" s__law_pick f2 fd2) (m__law_pick : mg "_law_pick" = some (.ref f2)) (b__law_pick : Binds K fd2 ["_law_deck_here", "_law_some"] []) (T : Txt mg) : GFn P w K mg base CX0 3 f fd ["_law_deck_here"] (spWide (K := K)) := by
  have G__law_draw : GFn P w K mg base CX0 1 f1 fd1 ["_law_deck_here", "_law_bound"] spDraw := ok_draw F__law_draw T
  have G__law_pick : GFn P w K mg base CX0 2 f2 fd2 ["_law_deck_here", "_law_some"] (spPick K) := ok_pick F__law_pick F__law_draw m__law_draw b__law_draw T
  refine gfun_ok F sc__law_wide (fun vs H Q E h => ?_) (fun cdv A outer s H vs Q E hgu hr h => ?_)
  · obtain ⟨d, l, c, rfl, _⟩ := h
    rfl
  · obtain ⟨d, l, c, rfl, D, hc, q⟩ := h
    have nd := sc__law_wide.nd
    refine ⟨_, (pss_cons (ps_set (i := 1) nd rfl (Or.inl rfl) (pe_op op_add pe_int (pe_g G__law_draw hgu (hr.mono (by decide)) (by rfl) m__law_draw F__law_draw.kp b__law_draw .nil pass0 (pa_cons (pv 0) (pa_cons pe_int pa_nil)))))
      (pss_cons (ps_asg (pe_tup (pa_cons (pe_lst (pa_cons pe_int (pa_cons (pe_un un_neg pe_int) (pa_cons pe_int (pa_cons pe_int (pa_cons pe_int (pa_cons (pe_un un_neg pe_int) pa_nil))))))) (pa_cons (pe_lst (pa_cons (pe_op op_pow pe_int pe_int) (pa_cons pe_int (pa_cons (pe_un un_neg pe_int) (pa_cons pe_int (pa_cons (pe_un un_neg (pe_op op_pow pe_int pe_int)) (pa_cons pe_int pa_nil))))))) pa_nil))) (k_tg (K := K) rfl (pgs_cons (pg_name (i := 2) nd rfl (Or.inr rfl)) (pgs_cons (pg_name (i := 3) nd rfl (Or.inr rfl)) pgs_nil))))
      (pss_one (ps_ret (pe_tup (pa_cons (pe_callTy (k_tupOf (K := K)) (by rfl) T.tuple (by decide +kernel) (pa_cons (pe_lc (own := [("_law_k", 4)]) rfl nd (pi_range1 rfl T.range (pa_cons (pv 1) pa_nil)) (blkOk_by (N := N__law_wide) (sc := defScope s__law_wide) (by decide +kernel)) (fun _ _ _ _ _ => (pg_name (i := 4) nd rfl (Or.inl rfl))) (fun _ _ _ _ _ => pts_nil) (fun _ _ _ _ _ => (pe_g G__law_pick hgu (hr.mono (by decide)) (by rfl) m__law_pick F__law_pick.kp b__law_pick .nil pass0 (pa_cons (pv 0) (pa_cons (pv 3) pa_nil))))) pa_nil)) (pa_cons (pe_callTy (k_tupOf (K := K)) (by rfl) T.tuple (by decide +kernel) (pa_cons (pe_lc (own := [("_law_k", 4)]) rfl nd (pi_range1 rfl T.range (pa_cons (pv 1) pa_nil)) (blkOk_by (N := N__law_wide) (sc := defScope s__law_wide) (by decide +kernel)) (fun _ _ _ _ _ => (pg_name (i := 4) nd rfl (Or.inl rfl))) (fun _ _ _ _ _ => pts_nil) (fun _ _ _ _ _ => (pe_g G__law_pick hgu (hr.mono (by decide)) (by rfl) m__law_pick F__law_pick.kp b__law_pick .nil pass0 (pa_cons (pv 0) (pa_cons (pv 2) pa_nil))))) pa_nil)) pa_nil))))))), ?_⟩
    refine ⟨_, rfl, d, l, c, _, rfl, D, by omega, by decide, by decide, fun r H1 r0 r1 D1 k1 => ⟨_, _, rfl, rfl, ?_⟩⟩
    -- the two lists that are picked from
    refine ⟨_, rfl, _, rfl, by decide, fun a na => ?_⟩
    obtain ⟨ad, al⟩ := D1.ne na
    have hA : (upd H1 a (.lst (small12.map V.int))) a = some (.lst (small12.map V.int)) := upd_same
    have D2 : Deck (upd H1 a (.lst (small12.map V.int))) d l (c + 1) := D1.upd na
    have k2 : Kept d l H (upd H1 a (.lst (small12.map V.int))) := k1.trans (.of (same_new na))
    refine ⟨_, _, rfl, rfl, ⟨by decide, by decide, by decide⟩, _, rfl, _, _, rfl, rfl, ⟨by decide, by decide, by decide⟩, _, rfl, by decide, fun b nb => ?_⟩
    have nb' : (upd H1 a (.lst (small12.map V.int))) b = none := nb
    obtain ⟨bd, bl⟩ := D2.ne nb'
    have D3 : Deck (upd (upd H1 a (.lst (small12.map V.int))) b (.lst (far12.map V.int))) d l (c + 1) := D2.upd nb'
    have k3 : Kept d l H (upd (upd H1 a (.lst (small12.map V.int))) b (.lst (far12.map V.int))) := k2.trans (.of (same_new nb'))
    have hA3 : (upd (upd H1 a (.lst (small12.map V.int))) b (.lst (far12.map V.int))) a = some (.lst (small12.map V.int)) := by
      rw [upd_ne (ne_of_none hA nb')]
      exact hA
    have hB3 : (upd (upd H1 a (.lst (small12.map V.int))) b (.lst (far12.map V.int))) b = some (.lst (far12.map V.int)) := upd_same
    refine ⟨(by show 2 ≤ sizeLine; decide), fun t nt => ?_⟩
    have nt' : (upd (upd H1 a (.lst (small12.map V.int))) b (.lst (far12.map V.int))) t = none := nt
    have D4 : Deck (upd (upd (upd H1 a (.lst (small12.map V.int))) b (.lst (far12.map V.int))) t (.tup [.ref a, .ref b])) d l (c + 1) := D3.upd nt'
    have k4 : Kept d l H (upd (upd (upd H1 a (.lst (small12.map V.int))) b (.lst (far12.map V.int))) t (.tup [.ref a, .ref b])) := k3.trans (.of (same_new nt'))
    have hA4 : (upd (upd (upd H1 a (.lst (small12.map V.int))) b (.lst (far12.map V.int))) t (.tup [.ref a, .ref b])) a = some (.lst (small12.map V.int)) := same_new nt' _ _ hA3
    have hB4 : (upd (upd (upd H1 a (.lst (small12.map V.int))) b (.lst (far12.map V.int))) t (.tup [.ref a, .ref b])) b = some (.lst (far12.map V.int)) := same_new nt' _ _ hB3
    refine ⟨t, _, rfl, .inl (.inl upd_same), rfl, _, _, rfl, _, _, rfl, rfl, ?_⟩
    -- the firsts
    refine ⟨_, rfl, 1 + r, rfl, by omega, by omega, fun e ne => ?_⟩
    refine lc_draws (B := fun x => x.natAbs ≤ 10 ^ 12) D4 ne (by omega) (fun i H4 hi D4 k5 R hR => ?_) (fun xs H4 hx hB he D5 k5 => ?_)
    · refine ⟨_, rfl, _, rfl, d, l, b, _, _, rfl, D4, by omega, SqL.of (k5 _ _ hB4 bd bl), bl, by simp [far12], by decide, fun x H5 hx D5 k6 => ?_⟩
      obtain ⟨n, hn, rfl⟩ := mem_map_int hx
      exact hR n H5 (far12_fit n hn) D5 k6
    · -- the factors
      refine ⟨e, _, rfl, .inl ⟨SqL.of he, fun g ng => ?_⟩⟩
      have hg : (upd H4 g (.tup (xs.map V.int))) g = some (.tup (xs.map V.int)) := upd_same
      have D6 : Deck (upd H4 g (.tup (xs.map V.int))) d l _ := D5.upd ng
      have k6 : Kept d l H (upd H4 g (.tup (xs.map V.int))) := (k4.trans k5).trans (.of (same_new ng))
      have hA6 : (upd H4 g (.tup (xs.map V.int))) a = some (.lst (small12.map V.int)) := same_new ng _ _ (k5 _ _ hA4 ad al)
      refine ⟨_, rfl, 1 + r, rfl, by omega, by omega, fun e2 ne2 => ?_⟩
      refine lc_draws (B := fun x => x.natAbs ≤ 10 ^ 6) D6 ne2 (by omega) (fun i H5 hi D7 k7 R hR => ?_) (fun ys H5 hy hC he2 D7 k7 => ?_)
      · refine ⟨_, rfl, _, rfl, d, l, a, _, _, rfl, D7, by omega, SqL.of (k7 _ _ hA6 ad al), al, by simp [small12], by decide, fun x H6 hx D8 k8 => ?_⟩
        obtain ⟨n, hn, rfl⟩ := mem_map_int hx
        exact hR n H6 (small12_fit n hn) D8 k8
      · have hg5 : H5 g = some (.tup (xs.map V.int)) := k7 _ _ hg (D5.ne ng).1 (D5.ne ng).2
        refine ⟨e2, _, rfl, .inl ⟨SqL.of he2, fun g2 ng2 => ?_⟩⟩
        refine ⟨(by show 2 ≤ sizeLine; decide), fun p np => ?_⟩
        refine q _ _ xs ys ⟨by omega, by omega, hB, hC⟩ ⟨p, g, g2, rfl, .inl (.inl upd_same), .inl (.inl (same_new np _ _ (same_new ng2 _ _ hg5))), .inl (.inl (same_new np _ _ upd_same))⟩ (((D7.upd ng2).upd np).mono (by omega)) ?_
        exact ((k6.trans k7).trans (.of (same_new ng2))).trans (.of (same_new np))
end
end SG

namespace SG
open PySem PySem.Spec PyProof.Rows L2
theorem cut_to (xs : List V) (n : Nat) : cutV xs none (some (n : Int)) = xs.take n := by
  unfold cutV
  rw [HT.sIx_none, HT.sIx_nat, Nat.sub_zero, List.drop_zero]
  rcases Nat.le_total n xs.length with h | h
  · rw [Nat.min_eq_left h]
  · rw [Nat.min_eq_right h, List.take_of_length_le (Nat.le_refl _), List.take_of_length_le h]
theorem get_map_int {ns : List Int} {i : Nat} {x : V} (h : (ns.map V.int)[i]? = some x) : ∃ n, ns[i]? = some n ∧ x = .int n := by
  rw [List.getElem?_map] at h
  obtain ⟨n, h1, h2⟩ := Option.map_eq_some_iff.mp h
  exact ⟨n, h1, h2.symm⟩
theorem six_mul {c : Int} (h : c.natAbs ≤ 10 ^ 6) (z : Int) : CMul c z := .inl (by omega)
section
variable {P : Program} {w : World} {K : PySem.W.Frag} {mg : Str → Option Value} {base : Heap}

def spTermsL (K : PySem.W.Frag) : Sp := fun vs H Q _ => ∃ (v : V) (fs cs : List Int) (n : Nat), vs = [v, .int n] ∧ RuleAt K H v fs cs ∧ Fit fs cs ∧ n ≤ 300 ∧
  ∀ (p : Addr) (H2 : Hp), Same H H2 → H p = none → H2 p = some (.lst ((rowOf fs cs n).map V.int)) → Q (.ref p) H2
theorem ok_termsL {f : Addr} {fd : FuncData} (F : Fun K "_law_terms" "_law_terms" s__law_terms f fd) (T : Txt mg) : GFn P w K mg base CX0 1 f fd ["_law_rule_here", "_law_many"] (spTermsL K) := by
  refine gfun_ok F sc__law_terms (fun vs H Q E h => ?_) (fun cdv A outer s H vs Q E hgu hr h => ?_)
  · obtain ⟨v, fs, cs, n, rfl, _⟩ := h
    rfl
  · obtain ⟨v, fs, cs, n, rfl, R0, ft, hn, q⟩ := h
    have nd := sc__law_terms.nd
    obtain ⟨a, b, c, rfl, hA, hB, hC⟩ := id R0
    have f1 := ft.1
    have f2 := ft.2.1
    refine ⟨_, (pss_cons (ps_set (i := 2) nd rfl (Or.inr rfl) (pe_lc (own := [("_law_first", 3)]) rfl nd (pi_tup (pe_ix (k_ixT (K := K)) (pv 0) pe_int (fun _ _ => rfl))) (blkOk_by (N := N__law_terms) (sc := defScope s__law_terms) (by decide +kernel)) (fun _ _ _ _ _ => (pg_name (i := 3) nd rfl (Or.inl rfl))) (fun _ _ _ _ _ => pts_nil) (fun _ _ _ _ _ => (pe_callTy call_int1 (by rfl) T.int (by decide +kernel) (pa_cons (pv 3) pa_nil)))))
      (pss_cons (ps_while PassesOwn.never (pt_cmpR op_lt (pe_callB (k_len (K := K)) (by rfl) T.len (by decide +kernel) (pa_cons (pv 2) pa_nil)) (pv 1) (nomark _)) (pss_one (ps_expr (pe_bm PySem.F.plainAttrs_list PySem.F.slot_list_append PySem.F.type_list_append mt_append (pv 2) (pa_cons (pe_callB (k_sum (K := K) rfl) (by rfl) T.sum (by decide +kernel) (pa_cons (pe_lc (own := [("_law_k", 4), ("_law_factor", 5)]) rfl nd (k_enumT (K := K) (by rfl) T.enumerate (pa_cons (pe_ix (k_ixT (K := K)) (pv 0) pe_int (fun _ _ => rfl)) pa_nil)) (blkOk_by (N := N__law_terms) (sc := defScope s__law_terms) (by decide +kernel)) (fun _ _ _ _ _ => (k_tg (K := K) (n := 2) rfl (pgs_cons (pg_name (i := 4) nd rfl (Or.inl rfl)) (pgs_cons (pg_name (i := 5) nd rfl (Or.inl rfl)) pgs_nil)))) (fun _ _ _ _ _ => pts_nil) (fun _ _ _ _ _ => (pe_op op_mul (pv 5) (pe_ix (k_ixL (K := K)) (pv 2) (pe_op op_sub (pe_op op_sub (pe_callB (k_len (K := K)) (by rfl) T.len (by decide +kernel) (pa_cons (pv 2) pa_nil)) pe_int) (pv 4)) (fun _ _ => rfl))))) pa_nil)) pa_nil)))))
      (pss_one (ps_ret (pe_slice (k_slL (K := K)) (pv 2) po_none (po_some (pv 1))))))), ?_⟩
    -- the firsts
    refine ⟨_, rfl, a, _, 0, _, rfl, rfl, hA, atI_nat (j := 0) rfl, b, rfl, ⟨_, hB⟩, fun D nD => ?_⟩
    refine lc_tupS (K := K) (a := b) (xs := fs.map V.int) (ys := fs.map V.int) (by rw [List.length_map]; omega) nD hB rfl (fun i x y H2 hx hy s2 R hR => ?_) (fun H2 s2 hD => ?_)
    · obtain ⟨k, hk, rfl⟩ := get_map_int hx
      obtain rfl : y = .int k := Option.some.inj (hy.symm.trans hx)
      exact ⟨_, rfl, .inl ⟨_, rfl, hR _ (Same.refl _)⟩⟩
    · -- the others
      refine ⟨fun m σ H3 => ∃ (i : Nat) (y3 y4 y5 : Option V), σ = [some (.ref a), some (.int n), some (.ref D), y3, y4, y5] ∧ m = n - (fs.length + i) ∧ Same H H3 ∧ H3 D = some (.lst ((grow cs i fs).map V.int)) ∧ (i = 0 ∨ fs.length + i ≤ n),
        ⟨_, 0, none, none, none, rfl, rfl, s2, hD, .inl rfl⟩, ?_⟩
      rintro m σ H3 ⟨i, y3, y4, y5, rfl, rfl, s3, hD3, hi⟩
      have gl : (grow cs i fs).length = fs.length + i := grow_len _ _ _
      refine ⟨_, rfl, D, _, rfl, .inl (SqL.of hD3), _, rfl, _, _, rfl, rfl, _, rfl, ite2 (fun lt => ?_) (fun ge => ?_)⟩
      · have lt' : fs.length + i < n := by
          have z := of_decide_eq_true lt
          rw [List.length_map, gl] at z
          omega
        refine ⟨fun σ' H' => ∃ y3 y4 y5, σ' = [some (.ref a), some (.int n), some (.ref D), y3, y4, y5] ∧ Same H H' ∧ H' D = some (.lst ((grow cs (i + 1) fs).map V.int)), ?_, ?_⟩
        · rintro σ' H' ⟨z3, z4, z5, rfl, s4, h4⟩
          exact ⟨n - (fs.length + (i + 1)), by omega, i + 1, z3, z4, z5, rfl, rfl, s4, h4, .inr (by omega)⟩
        · refine ⟨.ref D, rfl, .inl ⟨rfl, _, SqL.of hD3⟩, ?_⟩
          refine ⟨_, rfl, a, _, 1, _, rfl, rfl, sameT s3 hA, atI_nat (j := 1) rfl, c, _, rfl, sameT s3 hC, fun e ne => ?_⟩
          refine lc_enumS (K := K) (a := c) (xs := cs.map V.int) (ys := (prodsFrom (grow cs i fs) 0 cs).map V.int) (by have := ft.1; have := ft.2.1; rw [List.length_map]; omega) ne (sameT s3 hC) (by rw [List.length_map, List.length_map, prodsFrom_len]) (fun j x y H4 hx hy s4 R hR => ?_) (fun H4 s4 hE => ?_)
          · obtain ⟨k, hk, rfl⟩ := get_map_int hx
            have hj : (prodsFrom (grow cs i fs) 0 cs)[j]? = some (k * atBack (grow cs i fs) (0 + j)) := prodsFrom_get _ cs 0 j k hk
            obtain rfl : y = .int (k * atBack (grow cs i fs) j) := by
              rw [List.getElem?_map, hj, Nat.zero_add] at hy
              exact (Option.some.inj hy).symm
            have hj2 : j < cs.length := (List.getElem?_eq_some_iff.mp hk).1
            have at1 : atI ((grow cs i fs).map V.int) (((grow cs i fs).map V.int).length - 1 - (j : Int)) = some (.int (atBack (grow cs i fs) j)) := by
              have e1 : (((grow cs i fs).map V.int).length - 1 - (j : Int)) = (((grow cs i fs).length - 1 - j : Nat) : Int) := by
                rw [List.length_map]
                omega
              rw [e1]
              refine atI_nat ?_
              have lt2 : (grow cs i fs).length - 1 - j < (grow cs i fs).length := by omega
              unfold atBack
              rw [List.getElem?_map, List.getElem?_eq_getElem lt2, List.getD_eq_getElem?_getD, List.getElem?_eq_getElem lt2]
              rfl
            have hD4 := s4 _ _ hD3
            exact ⟨_, rfl, _, rfl, _, rfl, D, _, rfl, .inl (SqL.of hD4), _, _, rfl, rfl, _, rfl, _, _, rfl, rfl, D, _, _, _, rfl, rfl, SqL.of hD4, at1, _, _, rfl, rfl, six_mul (ft.2.2.2 k (List.mem_of_getElem? hk)) _, hR _ (Same.refl _)⟩
          · have hD4 := s4 _ _ hD3
            refine ⟨e, _, rfl, SqL.of hE, D, _, _, rfl, rfl, hD4, ?_, ?_⟩
            · rw [List.length_map, gl]
              exact small1000 (by omega)
            · refine ⟨y3, y4, y5, rfl, same_upd_of (s3.trans s4) nD, ?_⟩
              rw [upd_same, grow_succ, List.map_append]
              rfl
      · have ge' : ¬ fs.length + i < n := fun z => by
          refine ge (decide_eq_true ?_)
          rw [List.length_map, gl]
          omega
        -- the first so many
        refine ⟨_, rfl, _, rfl, _, rfl, D, _, rfl, SqL.of hD3, fun p np => ?_⟩
        refine q p _ (s3.trans (same_new np)) (s3.free np) ?_
        rw [upd_same, cut_to, ← List.map_take]
        have e : (grow cs i fs).take n = rowOf fs cs n := by
          unfold rowOf
          rcases hi with rfl | hi
          · rw [show n - fs.length = 0 by omega]
          · rw [show n - fs.length = i by omega]
        rw [e]
end
end SG

namespace SG
open PySem PySem.Spec PyProof.Rows L2
theorem atI_back {xs : List V} {b : Nat} {v : V} (h1 : 1 ≤ b) (h2 : b ≤ xs.length) (h : xs[xs.length - b]? = some v) : atI xs (-(b : Int)) = some v := by
  unfold atI ixN
  rw [if_neg (by omega), if_pos (by omega)]
  show xs[(-(b : Int) + xs.length).toNat]? = some v
  rw [show (-(b : Int) + xs.length).toNat = xs.length - b by omega]
  exact h
theorem tapsFrom_app : ∀ (xs ys : List Int) (k : Nat), tapsFrom k (xs ++ ys) = tapsFrom k xs ++ tapsFrom (k + xs.length) ys
  | [], ys, k => rfl
  | x :: xs, ys, k => by
    have ih := tapsFrom_app xs ys (k + 1)
    show (if x = 0 then tapsFrom (k + 1) (xs ++ ys) else (k + 1, x) :: tapsFrom (k + 1) (xs ++ ys)) = (if x = 0 then tapsFrom (k + 1) xs else (k + 1, x) :: tapsFrom (k + 1) xs) ++ _
    rw [ih, List.length_cons, show k + (xs.length + 1) = k + 1 + xs.length by omega]
    split <;> rfl
theorem sqT_upd {K : PySem.W.Frag} {H : Hp} {D p : Addr} {xs ys : List V} {o : HO} (h : H D = some (.lst xs)) (t : SqT K H p ys) : SqT K (upd H D o) p ys := by
  rcases t with (t | ⟨u, t⟩) | t
  · exact .inl (.inl (by rw [upd_ne (ne_of t h nofun)]; exact t))
  · exact .inl (.inr ⟨u, by rw [upd_ne (ne_of t h nofun)]; exact t⟩)
  · exact .inr t
section
variable {P : Program} {w : World} {K : PySem.W.Frag} {mg : Str → Option Value} {base : Heap}

/-- pairs of ints, told by their places -/
def PairsAt (K : PySem.W.Frag) (H : Hp) (ps : List Addr) (ts : List (Nat × Int)) : Prop :=
  ps.length = ts.length ∧ ∀ (j : Nat) p t, ps[j]? = some p → ts[j]? = some t → SqT K H p [.int (t.1 : Nat), .int t.2]
theorem PairsAt.same {H H2 : Hp} {ps : List Addr} {ts : List (Nat × Int)} (s : Same H H2) (h : PairsAt K H ps ts) : PairsAt K H2 ps ts :=
  ⟨h.1, fun j p t a b => sameT s (h.2 j p t a b)⟩
def spTerms (K : PySem.W.Frag) : Sp := fun vs H Q _ => ∃ (v : V) (fs cs : List Int) (n : Nat), vs = [v, .int n] ∧ RuleAt K H v fs cs ∧ Fit fs cs ∧ n ≤ 301 ∧
  ∀ (p : Addr) (H2 : Hp), Same H H2 → SqT K H2 p ((rowOf fs cs n).map V.int) → Q (.ref p) H2
theorem ok_terms {f : Addr} {fd : FuncData} (F : Fun K "terms" "terms" s_terms f fd) (T : Txt mg) : GFn P w K mg base CX0 1 f fd ["rule", "many"] (spTerms K) := by
  refine gfun_ok F sc_terms (fun vs H Q E h => ?_) (fun cdv A outer s H vs Q E hgu hr h => ?_)
  · obtain ⟨v, fs, cs, n, rfl, _⟩ := h
    rfl
  · obtain ⟨v, fs, cs, n, rfl, R0, ft, hn, q⟩ := h
    have nd := sc_terms.nd
    obtain ⟨a, b, c, rfl, hA, hB, hC⟩ := id R0
    have f1 := ft.1
    have f2 := ft.2.1
    refine ⟨_, (pss_cons (ps_asg (pv 0) (k_tg (K := K) (n := 2) rfl (pgs_cons (pg_name (i := 2) nd rfl (Or.inl rfl)) (pgs_cons (pg_name (i := 3) nd rfl (Or.inl rfl)) pgs_nil))))
      (pss_cons (ps_setLc (i := 4) (own := [("at", 6), ("factor", 7)]) rfl nd rfl rfl (sw_true rfl rfl rfl (by decide +kernel)) (k_enumT (K := K) (by rfl) T.enumerate (pa_cons (pv 3) pa_nil)) (blkOk_by (N := N_terms) (sc := defScope s_terms) (by decide +kernel)) (fun _ _ _ _ _ => (k_tg (K := K) (n := 2) rfl (pgs_cons (pg_name (i := 6) nd rfl (Or.inl rfl)) (pgs_cons (pg_name (i := 7) nd rfl (Or.inl rfl)) pgs_nil)))) (fun _ _ _ _ _ => (pts_one (pt_cmpR op_ne (pv 7) pe_int (nomark _)))) (fun _ _ _ _ _ => (pe_tup (pa_cons (pe_op op_add (pv 6) pe_int) (pa_cons (pv 7) pa_nil)))))
      (C8.pss_cut (ps_set (i := 5) nd rfl (Or.inr rfl) (pe_callTy (k_listOf (K := K)) (by rfl) T.list (by decide +kernel) (pa_cons (pe_slice (k_slT (K := K)) (pv 2) po_none (po_some (pv 1))) pa_nil)))
      (pss_cons (ps_while PassesOwn.never (pt_cmpR op_lt (pe_callB (k_len (K := K)) (by rfl) T.len (by decide +kernel) (pa_cons (pv 5) pa_nil)) (pv 1) (nomark _)) (pss_one (ps_expr (pe_bm PySem.F.plainAttrs_list PySem.F.slot_list_append PySem.F.type_list_append mt_append (pv 5) (pa_cons (pe_callB (k_sum (K := K) rfl) (by rfl) T.sum (by decide +kernel) (pa_cons (pe_lc (own := [("back", 8), ("factor", 7)]) rfl nd (pi_list (pv 4)) (blkOk_by (N := N_terms) (sc := defScope s_terms) (by decide +kernel)) (fun _ _ _ _ _ => (k_tg (K := K) (n := 2) rfl (pgs_cons (pg_name (i := 8) nd rfl (Or.inl rfl)) (pgs_cons (pg_name (i := 7) nd rfl (Or.inl rfl)) pgs_nil)))) (fun _ _ _ _ _ => pts_nil) (fun _ _ _ _ _ => (pe_op op_mul (pv 7) (pe_ix (k_ixL (K := K)) (pv 5) (pe_un un_neg (pv 8)) (fun _ _ => rfl))))) pa_nil)) pa_nil)))))
      (pss_one (ps_ret (pe_callTy (k_tupOf (K := K)) (by rfl) T.tuple (by decide +kernel) (pa_cons (pv 5) pa_nil)))))))), ?_⟩
    refine ⟨_, rfl, a, _, rfl, hA, rfl, _, _, rfl, _, _, rfl, rfl, ?_⟩
    -- the factors that are not 0
    refine ⟨_, rfl, c, _, rfl, hC, fun D nD => ?_⟩
    refine lc_enumT (K := K) (a := c) (xs := cs.map V.int) (fun i H2 => Same H H2 ∧ ∃ ps : List Addr, H2 D = some (.lst (ps.map V.ref)) ∧ PairsAt K H2 ps (tapsFrom 0 (cs.take i)))
      ⟨same_new nD, [], upd_same, rfl, fun j p t h => by simp at h⟩ (fun i H2 _ p => sameT p.1 hC) ?_ ?_
    · rintro i x H2 T hx ⟨s2, ps, hD, hp⟩ hT
      obtain ⟨k, hk, rfl⟩ := get_map_int hx
      have hi : i < cs.length := (List.getElem?_eq_some_iff.mp hk).1
      have e1 : tapsFrom 0 (cs.take (i + 1)) = tapsFrom 0 (cs.take i) ++ (if k = 0 then [] else [(i + 1, k)]) := by
        rw [List.take_add_one, hk]
        show tapsFrom 0 (cs.take i ++ [k]) = _
        rw [tapsFrom_app, List.length_take, Nat.min_eq_left (by omega), Nat.zero_add]
        unfold tapsFrom
        split <;> rfl
      refine ⟨T, _, rfl, .inl (.inl upd_same), rfl, _, _, rfl, _, _, rfl, rfl, wipe2 _ _ _ _ _, ?_⟩
      have s3 := s2.trans (same_new (o := .tup [.int (i : Nat), .int k]) hT)
      have hD3 := same_new (o := .tup [.int (i : Nat), .int k]) hT _ _ hD
      have hp3 : PairsAt K _ ps _ := hp.same (same_new (o := .tup [.int (i : Nat), .int k]) hT)
      refine ⟨_, rfl, rfl, _, rfl, ?_⟩
      by_cases k0 : k = 0
      · subst k0
        refine ifF (by rfl) ⟨s3, ps, hD3, ?_⟩
        rw [e1, if_pos rfl, List.append_nil]
        exact hp3
      · refine ifT (by simp [k0]) ?_
        refine ⟨_, rfl, _, _, rfl, rfl, _, rfl, (by show 2 ≤ sizeLine; decide), fun t nt => ?_⟩
        have hD4 := same_new (o := .tup [.int ((i : Nat) + 1), .int k]) nt _ _ hD3
        refine ⟨ps.map V.ref, hD4, ?_, ?_⟩
        · have z := taps_len (cs.take i) 0
          rw [List.length_map, hp.1]
          rw [List.length_take] at z
          exact small1000 (by omega)
        · refine ⟨same_upd_of (s3.trans (same_new nt)) nD, ps ++ [t], by rw [upd_same, List.map_append]; rfl, ?_⟩
          rw [e1, if_neg k0]
          refine ⟨by rw [List.length_append, List.length_append, hp.1]; rfl, fun j p u h1 h2 => sqT_upd hD4 ?_⟩
          rcases Nat.lt_or_ge j ps.length with hj | hj
          · rw [List.getElem?_append_left hj] at h1
            rw [List.getElem?_append_left (by rw [← hp.1]; exact hj)] at h2
            exact sameT (same_new nt) (hp3.2 j p u h1 h2)
          · rw [List.getElem?_append_right hj] at h1
            rw [List.getElem?_append_right (by rw [← hp.1]; exact hj), ← hp.1] at h2
            rcases Nat.lt_or_ge (j - ps.length) 1 with h0 | h0
            · rw [show j - ps.length = 0 by omega] at h1 h2
              obtain rfl : t = p := Option.some.inj h1
              obtain rfl : (i + 1, k) = u := Option.some.inj h2
              exact .inl (.inl upd_same)
            · rw [List.getElem?_eq_none (by simpa using h0)] at h1
              cases h1
    · rintro H2 ⟨s2, ps, hD, hp⟩
      rw [show (cs.map V.int).length = cs.length from List.length_map _, List.take_length] at hp
      -- the row begins
      refine ⟨fun σ' H' => ∃ (r : Addr) (y6 y7 y8 : Option V), σ' = [some (.ref a), some (.int n), some (.ref b), some (.ref c), some (.ref D), some (.ref r), y6, y7, y8] ∧ Same H2 H' ∧ H2 r = none ∧ H' r = some (.lst ((fs.take n).map V.int)), ?_, ?_⟩
      · have hB2 := sameT s2 hB
        have fin : ∀ (H3 : Hp) (x : Addr) (xs : List Int), xs = fs.take n → Same H2 H3 → SqT K H3 x (xs.map V.int) → ∀ r, H3 r = none → ∃ (r' : Addr) (y6 y7 y8 : Option V),
            [some (.ref a), some (.int n), some (.ref b), some (.ref c), some (.ref D), some (V.ref r), none, none, none] = [some (.ref a), some (.int n), some (.ref b), some (.ref c), some (.ref D), some (V.ref r'), y6, y7, y8] ∧
            Same H2 (upd H3 r (.lst (xs.map V.int))) ∧ H2 r' = none ∧ (upd H3 r (.lst (xs.map V.int))) r' = some (.lst ((fs.take n).map V.int)) :=
          fun H3 x xs e s3 h3 r nr => ⟨r, none, none, none, rfl, s3.trans (same_new nr), s3.free nr, by rw [upd_same, e]⟩
        refine ⟨_, rfl, _, rfl, _, rfl, b, _, rfl, hB2, fun whole => ?_, fun part p np => ?_⟩
        · have e : fs.take n = fs := by
            have z := whole.2
            rw [HT.sIx_nat, List.length_map] at z
            exact List.take_of_length_le (by omega)
          exact ⟨b, _, rfl, .inr hB2, fun r nr => fin _ b fs e.symm (Same.refl _) hB2 r nr⟩
        · rw [cut_to, ← List.map_take]
          exact ⟨p, _, rfl, .inr (.inl (.inl upd_same)), fun r nr => fin _ p _ rfl (same_new np) (.inl (.inl upd_same)) r nr⟩
      · rintro σ' H3 ⟨r, y6, y7, y8, rfl, s3, nr, hr3⟩
        -- the others
        refine ⟨fun m σ H4 => ∃ (i : Nat) (y6 y7 y8 : Option V), σ = [some (.ref a), some (.int n), some (.ref b), some (.ref c), some (.ref D), some (.ref r), y6, y7, y8] ∧ m = n - (fs.length + i) ∧ Same H2 H4 ∧ H4 r = some (.lst (((grow cs i fs).take n).map V.int)) ∧ (i = 0 ∨ fs.length + i ≤ n),
          ⟨_, 0, y6, y7, y8, rfl, rfl, s3, hr3, .inl rfl⟩, ?_⟩
        rintro m σ H4 ⟨i, z6, z7, z8, rfl, rfl, s4, hr4, hi⟩
        have gl : (grow cs i fs).length = fs.length + i := grow_len _ _ _
        have gt : ((grow cs i fs).take n).length = min n (fs.length + i) := by rw [List.length_take, gl]
        refine ⟨_, rfl, r, _, rfl, .inl (SqL.of hr4), _, rfl, _, _, rfl, rfl, _, rfl, ite2 (fun lt => ?_) (fun ge => ?_)⟩
        · have lt' : fs.length + i < n := by
            have z := of_decide_eq_true lt
            rw [List.length_map, gt] at z
            omega
          have et : (grow cs i fs).take n = grow cs i fs := List.take_of_length_le (by omega)
          rw [et] at hr4
          refine ⟨fun σ' H' => ∃ y6 y7 y8, σ' = [some (.ref a), some (.int n), some (.ref b), some (.ref c), some (.ref D), some (.ref r), y6, y7, y8] ∧ Same H2 H' ∧ H' r = some (.lst (((grow cs (i + 1) fs).take n).map V.int)), ?_, ?_⟩
          · rintro σ' H' ⟨x6, x7, x8, rfl, s5, h5⟩
            exact ⟨n - (fs.length + (i + 1)), by omega, i + 1, x6, x7, x8, rfl, rfl, s5, h5, .inr (by omega)⟩
          · refine ⟨.ref r, rfl, .inl ⟨rfl, _, SqL.of hr4⟩, ?_⟩
            have hD4 := s4 _ _ hD
            refine ⟨_, rfl, D, rfl, ⟨_, SqL.of hD4⟩, fun e ne => ?_⟩
            have tl := taps_len cs 0
            refine lc_listP (K := K) (a := D) (xs := ps.map V.ref) (ys := (sumTaps (grow cs i fs) (tapsFrom 0 cs)).map V.int) (by rw [List.length_map, hp.1]; omega) ne (SqL.of hD4) (by rw [List.length_map, List.length_map, hp.1]; unfold sumTaps; rw [List.length_map]) (fun j x y H5 hx hy s5 => ?_) (fun H5 s5 hE => ?_)
            · obtain ⟨p, hp1, rfl⟩ : ∃ p, ps[j]? = some p ∧ x = V.ref p := by
                rw [List.getElem?_map] at hx
                obtain ⟨p, h1, h2⟩ := Option.map_eq_some_iff.mp hx
                exact ⟨p, h1, h2.symm⟩
              have hj : j < (tapsFrom 0 cs).length := by rw [← hp.1]; exact (List.getElem?_eq_some_iff.mp hp1).1
              have ht : (tapsFrom 0 cs)[j]? = some (tapsFrom 0 cs)[j] := List.getElem?_eq_getElem hj
              have hm := taps_le cs 0 _ (List.getElem_mem hj)
              generalize (tapsFrom 0 cs)[j] = u at ht hm
              have hp5 := sameT s5 (sameT s4 (hp.2 j p u hp1 ht))
              refine ⟨p, _, _, rfl, hp5, fun R hR => ?_⟩
              obtain rfl : y = .int (u.2 * (grow cs i fs).getD ((grow cs i fs).length - u.1) 0) := by
                unfold sumTaps at hy
                rw [List.getElem?_map, List.getElem?_map, ht] at hy
                exact (Option.some.inj hy).symm
              have hr5 := s5 _ _ hr4
              have at1 : atI ((grow cs i fs).map V.int) (-(u.1 : Int)) = some (.int ((grow cs i fs).getD ((grow cs i fs).length - u.1) 0)) := by
                refine atI_back (by omega) (by rw [List.length_map]; omega) ?_
                have lt2 : (grow cs i fs).length - u.1 < (grow cs i fs).length := by omega
                rw [List.length_map, List.getElem?_map, List.getElem?_eq_getElem lt2, List.getD_eq_getElem?_getD, List.getElem?_eq_getElem lt2]
                rfl
              exact ⟨_, rfl, _, rfl, _, rfl, _, rfl, r, _, _, _, rfl, rfl, SqL.of hr5, at1, _, _, rfl, rfl, six_mul (ft.2.2.2 _ hm.2.2) _, hR _ (Same.refl _)⟩
            · have hr5 := s5 _ _ hr4
              refine ⟨e, _, rfl, SqL.of hE, r, _, _, rfl, rfl, hr5, ?_, ?_⟩
              · rw [List.length_map, gl]
                exact small1000 (by omega)
              · refine ⟨z6, z7, z8, rfl, same_upd_of (s4.trans s5) nr, ?_⟩
                rw [upd_same, taps_sum, List.take_of_length_le (by rw [grow_len]; omega), grow_succ, List.map_append]
                rfl
        · have ge' : ¬ fs.length + i < n := fun z => by
            refine ge (decide_eq_true ?_)
            rw [List.length_map, gt]
            omega
          refine ⟨_, rfl, r, _, rfl, .inl ⟨SqL.of hr4, fun p np => ?_⟩⟩
          have e : (grow cs i fs).take n = rowOf fs cs n := by
            unfold rowOf
            rcases hi with rfl | hi
            · rw [show n - fs.length = 0 by omega]
            · rw [show n - fs.length = i by omega]
          rw [e]
          exact q p _ ((s2.trans s4).trans (same_new np)) (.inl (.inl upd_same))
end
end SG

namespace SG
open PySem PySem.Spec PyProof.Rows L2
section
variable {P : Program} {w : World} {K : PySem.W.Frag} {mg : Str → Option Value} {base : Heap}

def spIsInt (K : PySem.W.Frag) : Sp := fun vs H Q _ => ∃ (x : V) (d : PyData), vs = [x] ∧ Dq K H x d ∧ Q (.bl (isInt d)) H
theorem ok_isInt {f : Addr} {fd : FuncData} (F : Fun K "is_integer" "is_integer" s_is_integer f fd) (T : Txt mg) : GFn P w K mg base CX0 1 f fd ["thing"] (spIsInt K) := by
  refine gfun_ok F sc_is_integer (fun vs H Q E h => ?_) (fun cdv A outer s H vs Q E hgu hr h => ?_)
  · obtain ⟨x, d, rfl, _⟩ := h
    rfl
  · obtain ⟨x, d, rfl, hd, q⟩ := h
    have nd := sc_is_integer.nd
    refine ⟨_, (pss_one (ps_ret (pe_and (pe_callB (k_isi (K := K)) (by rfl) T.isinstance (by decide +kernel) (pa_cons (pv 0) (pa_cons (pe_bltn (v := .ty "int") (by rfl) T.int (by decide +kernel) rfl) pa_nil))) (pe_one (pe_not (pe_callB (k_isi (K := K)) (by rfl) T.isinstance (by decide +kernel) (pa_cons (pv 0) (pa_cons (pe_bltn (v := .ty "bool") (by rfl) T.bool (by decide +kernel) rfl) pa_nil)))))))), ?_⟩
    refine ⟨_, rfl, _, _, _, _, _, rfl, .ty "int", dq_ty hd, isi_int hd, _, rfl, ?_⟩
    by_cases e : isIntLike d = true
    · refine ifT e ⟨_, rfl, _, _, _, _, _, rfl, .ty "bool", dq_ty hd, isi_bool hd, _, rfl, ?_⟩
      have z : (!isBool d) = isInt d := by cases d <;> simp [isIntLike, isBool, isInt] at e ⊢
      show Q (.bl (!isBool d)) H
      rw [z]
      exact q
    · refine ifF (by simpa using e) ?_
      have z : isInt d = false := by cases d <;> simp [isIntLike, isInt] at e ⊢
      rw [z] at q
      exact q
def tupLen (n : Nat) : PyData → Bool
  | .tuple ds => ds.length == n
  | _ => false
def spTupOf (K : PySem.W.Frag) : Sp := fun vs H Q _ => ∃ (x : V) (d : PyData) (n : Nat), vs = [x, .int n] ∧ Dq K H x d ∧
  Q (.bl (tupLen n d)) H
theorem ok_tupOf {f : Addr} {fd : FuncData} (F : Fun K "is_tuple_of" "is_tuple_of" s_is_tuple_of f fd) (T : Txt mg) : GFn P w K mg base CX0 1 f fd ["thing", "many"] (spTupOf K) := by
  refine gfun_ok F sc_is_tuple_of (fun vs H Q E h => ?_) (fun cdv A outer s H vs Q E hgu hr h => ?_)
  · obtain ⟨x, d, n, rfl, _⟩ := h
    rfl
  · obtain ⟨x, d, n, rfl, hd, q⟩ := h
    have nd := sc_is_tuple_of.nd
    refine ⟨_, (pss_one (ps_ret (pe_and (pe_callB (k_isi (K := K)) (by rfl) T.isinstance (by decide +kernel) (pa_cons (pv 0) (pa_cons (pe_bltn (v := .ty "tuple") (by rfl) T.tuple (by decide +kernel) rfl) pa_nil))) (pe_one (pe_cmpR op_eq (pe_callB (k_len (K := K)) (by rfl) T.len (by decide +kernel) (pa_cons (pv 0) pa_nil)) (pv 1) (nomark _)))))), ?_⟩
    refine ⟨_, rfl, _, _, _, _, _, rfl, .ty "tuple", dq_ty hd, isi_tuple hd, _, rfl, ?_⟩
    by_cases e : isTup d = true
    · refine ifT e ?_
      obtain ⟨ds, rfl⟩ : ∃ ds, d = .tuple ds := by cases d <;> simp [isTup] at e ⊢
      obtain ⟨a, xs, rfl, hS, hA⟩ := dq_tuple hd
      refine ⟨_, rfl, a, _, rfl, .inr hS, _, rfl, rfl, ?_⟩
      have z : (ds.length == n) = decide (V.int ((xs.length : Nat) : Int) = V.int (n : Int)) := by
        rw [dpA_len hA]
        by_cases h : ds.length = n
        · simp [h]
        · have h2 : ¬ V.int ((ds.length : Nat) : Int) = V.int (n : Int) := fun z => h (by have := V.int.inj z; omega)
          simp [h, h2]
      rw [show tupLen n (.tuple ds) = (ds.length == n) from rfl, z] at q
      exact q
    · refine ifF (by simpa using e) ?_
      have z : tupLen n d = false := by cases d <;> simp [isTup, tupLen] at e ⊢
      rw [z] at q
      exact q

def isPair : PyData → Bool
  | .tuple [.tuple _, .tuple _] => true
  | _ => false
theorem pair_len {ds : List PyData} (h : isPair (.tuple ds) = true) : ds.length = 2 := by
  unfold isPair at h
  split at h
  · rename_i e
    injection e with e
    rw [e]
    rfl
  · cases h
/-- two things in a tuple -/
theorem dq_two {H : Hp} {x : V} {ds : List PyData} (h : Dq K H x (.tuple ds)) (hl : ds.length = 2) : ∃ a u v d e, x = .ref a ∧ ds = [d, e] ∧ SqT K H a [u, v] ∧ Dq K H u d ∧ Dq K H v e := by
  obtain ⟨a, xs, rfl, hS, hA⟩ := dq_tuple h
  obtain ⟨d, e, rfl⟩ : ∃ d e, ds = [d, e] := by
    rcases ds with _ | ⟨d, _ | ⟨e, _ | ⟨f, t⟩⟩⟩
    · cases hl
    · cases hl
    · exact ⟨d, e, rfl⟩
    · simp at hl
  cases hA with
  | cons h1 h2 =>
    cases h2 with
    | cons h3 h4 =>
      cases h4
      exact ⟨a, _, _, d, e, rfl, rfl, hS, .inl h1, .inl h3⟩
theorem ok_pair {f f1 : Addr} {fd fd1 : FuncData} (F : Fun K "is_pair_of_tuples" "is_pair_of_tuples" s_is_pair_of_tuples f fd) (F_is_tuple_of : Fun K "is_tuple_of" "is_tuple_of" s_is_tuple_of f1 fd1) (m_is_tuple_of : mg "is_tuple_of" = some (.ref f1)) (b_is_tuple_of : Binds K fd1 ["thing", "many"] []) (T : Txt mg) :
    GFn P w K mg base CX0 2 f fd ["thing"] (fun vs H Q _ => ∃ (x : V) (d : PyData), vs = [x] ∧ Dq K H x d ∧ Q (.bl (isPair d)) H) := by
  have G_is_tuple_of : GFn P w K mg base CX0 1 f1 fd1 ["thing", "many"] (spTupOf K) := ok_tupOf F_is_tuple_of T
  refine gfun_ok F sc_is_pair_of_tuples (fun vs H Q E h => ?_) (fun cdv A outer s H vs Q E hgu hr h => ?_)
  · obtain ⟨x, d, rfl, _⟩ := h
    rfl
  · obtain ⟨x, d, rfl, hd, q⟩ := h
    have nd := sc_is_pair_of_tuples.nd
    refine ⟨_, (pss_one (ps_ret (pe_and (pe_g G_is_tuple_of hgu (hr.mono (by decide)) (by rfl) m_is_tuple_of F_is_tuple_of.kp b_is_tuple_of .nil pass0 (pa_cons (pv 0) (pa_cons pe_int pa_nil))) (pe_and (pe_callB (k_isi (K := K)) (by rfl) T.isinstance (by decide +kernel) (pa_cons (pe_ix (k_ixT (K := K)) (pv 0) pe_int (fun _ _ => rfl)) (pa_cons (pe_bltn (v := .ty "tuple") (by rfl) T.tuple (by decide +kernel) rfl) pa_nil))) (pe_one (pe_callB (k_isi (K := K)) (by rfl) T.isinstance (by decide +kernel) (pa_cons (pe_ix (k_ixT (K := K)) (pv 0) pe_int (fun _ _ => rfl)) (pa_cons (pe_bltn (v := .ty "tuple") (by rfl) T.tuple (by decide +kernel) rfl) pa_nil)))))))), ?_⟩
    refine ⟨_, rfl, _, d, 2, rfl, hd, _, rfl, ?_⟩
    by_cases e : tupLen 2 d = true
    · refine ifT e ?_
      obtain ⟨ds, rfl⟩ : ∃ ds, d = .tuple ds := by cases d <;> simp [tupLen] at e ⊢
      obtain ⟨a, u, v, d1, d2, rfl, rfl, hS, hu, hv⟩ := dq_two hd (by simpa [tupLen] using e)
      refine ⟨_, rfl, a, _, 0, _, rfl, rfl, hS, atI_nat (j := 0) rfl, _, _, _, _, _, rfl, .ty "tuple", dq_ty hu, isi_tuple hu, _, rfl, ?_⟩
      by_cases e1 : isTup d1 = true
      · refine ifT e1 ⟨_, rfl, a, _, 1, _, rfl, rfl, hS, atI_nat (j := 1) rfl, _, _, _, _, _, rfl, .ty "tuple", dq_ty hv, isi_tuple hv, ?_⟩
        have z : isPair (.tuple [d1, d2]) = isTup d2 := by cases d1 <;> cases d2 <;> simp [isTup, isPair] at e1 ⊢
        rw [z] at q
        exact q
      · refine ifF (by simpa using e1) ?_
        have z : isPair (.tuple [d1, d2]) = false := by cases d1 <;> cases d2 <;> simp [isTup, isPair] at e1 ⊢
        rw [z] at q
        exact q
    · refine ifF (by simpa using e) ?_
      have z : isPair d = false := by
        cases d with
        | tuple ds =>
          cases h : isPair (.tuple ds) with
          | false => rfl
          | true => exact absurd (by simp [tupLen, pair_len h]) e
        | _ => rfl
      rw [z] at q
      exact q
def spIsRule (K : PySem.W.Frag) : Sp := fun vs H Q _ => ∃ (x : V) (d : PyData), vs = [x] ∧ Dq K H x d ∧ (∀ xs ys, d = .tuple [.tuple xs, .tuple ys] → xs.length ≤ 100 ∧ ys.length ≤ 100) ∧ ∀ H2, Same H H2 → Q (.bl (isRuleD d)) H2
theorem isPair_shape {d : PyData} (h : isPair d = true) : ∃ us vs, d = .tuple [.tuple us, .tuple vs] := by
  unfold isPair at h
  split at h
  · exact ⟨_, _, rfl⟩
  · cases h
theorem isRule_of_noPair {d : PyData} (h : isPair d = false) : isRuleD d = false := by
  cases e : isRuleD d with
  | false => rfl
  | true =>
    unfold isRuleD at e
    split at e
    · simp [isPair] at h
    · cases e
theorem ok_isRule {f f1 f2 f3 : Addr} {fd fd1 fd2 fd3 : FuncData} (F : Fun K "is_rule" "is_rule" s_is_rule f fd) (F_is_pair_of_tuples : Fun K "is_pair_of_tuples" "is_pair_of_tuples" s_is_pair_of_tuples f1 fd1) (m_is_pair_of_tuples : mg "is_pair_of_tuples" = some (.ref f1)) (b_is_pair_of_tuples : Binds K fd1 ["thing"] [])
    (F_is_tuple_of : Fun K "is_tuple_of" "is_tuple_of" s_is_tuple_of f2 fd2) (m_is_tuple_of : mg "is_tuple_of" = some (.ref f2)) (b_is_tuple_of : Binds K fd2 ["thing", "many"] []) (F_is_integer : Fun K "is_integer" "is_integer" s_is_integer f3 fd3) (m_is_integer : mg "is_integer" = some (.ref f3)) (b_is_integer : Binds K fd3 ["thing"] []) (T : Txt mg) :
    GFn P w K mg base CX0 3 f fd ["thing"] (spIsRule K) := by
  have G_is_pair_of_tuples := ok_pair (P := P) (w := w) (base := base) F_is_pair_of_tuples F_is_tuple_of m_is_tuple_of b_is_tuple_of T
  have G_is_integer : GFn P w K mg base CX0 1 f3 fd3 ["thing"] (spIsInt K) := ok_isInt F_is_integer T
  refine gfun_ok F sc_is_rule (fun vs H Q E h => ?_) (fun cdv A outer s H vs Q E hgu hr h => ?_)
  · obtain ⟨x, d, rfl, _⟩ := h
    rfl
  · obtain ⟨x, d, rfl, hd, few, q⟩ := h
    have nd := sc_is_rule.nd
    refine ⟨_, (pss_cons (ps_if (PW.pt (pw_or (pt_not (pt_val (pe_g G_is_pair_of_tuples hgu (hr.mono (by decide)) (by rfl) m_is_pair_of_tuples F_is_pair_of_tuples.kp b_is_pair_of_tuples .nil pass0 (pa_cons (pv 0) pa_nil)))) (pw_or1 (pt_cmpR op_ne (pe_callB (k_len (K := K)) (by rfl) T.len (by decide +kernel) (pa_cons (pe_ix (k_ixT (K := K)) (pv 0) pe_int (fun _ _ => rfl)) pa_nil)) (pe_callB (k_len (K := K)) (by rfl) T.len (by decide +kernel) (pa_cons (pe_ix (k_ixT (K := K)) (pv 0) pe_int (fun _ _ => rfl)) pa_nil)) (nomark _))))) (pss_one (ps_ret pe_bl)) pss_nil)
      (pss_one (ps_ret (pe_callB (k_all (K := K) rfl) (by rfl) T.all (by decide +kernel) (pa_cons (pe_lc (own := [("number", 1)]) rfl nd (pi_tup (pe_op (k_catU (K := K)) (pe_ix (k_ixT (K := K)) (pv 0) pe_int (fun _ _ => rfl)) (pe_ix (k_ixT (K := K)) (pv 0) pe_int (fun _ _ => rfl)))) (blkOk_by (N := N_is_rule) (sc := defScope s_is_rule) (by decide +kernel)) (fun _ _ _ _ _ => (pg_name (i := 1) nd rfl (Or.inl rfl))) (fun _ _ _ _ _ => pts_nil) (fun _ _ _ _ _ => (pe_g G_is_integer hgu (hr.mono (by decide)) (by rfl) m_is_integer F_is_integer.kp b_is_integer .nil pass0 (pa_cons (pv 1) pa_nil)))) pa_nil))))), ?_⟩
    refine ⟨_, rfl, _, d, rfl, hd, _, rfl, ?_⟩
    by_cases e : isPair d = true
    · obtain ⟨us, vs, rfl⟩ := isPair_shape e
      obtain ⟨l1, l2⟩ := few us vs rfl
      obtain ⟨a, u, v, d1, d2, rfl, e2, hS, hu, hv⟩ := dq_two hd rfl
      obtain ⟨rfl, rfl⟩ : .tuple us = d1 ∧ .tuple vs = d2 := by
        injection e2 with e3 e4
        injection e4 with e5
        exact ⟨e3, e5⟩
      obtain ⟨b, xs, rfl, hB, hX⟩ := dq_tuple hu
      obtain ⟨c, ys, rfl, hC, hY⟩ := dq_tuple hv
      have lx := dpA_len hX
      have ly := dpA_len hY
      refine ifF (by rw [e]; rfl) ?_
      refine ⟨_, rfl, a, _, 0, _, rfl, rfl, hS, atI_nat (j := 0) rfl, b, _, rfl, .inr hB, _, rfl, a, _, 1, _, rfl, rfl, hS, atI_nat (j := 1) rfl, c, _, rfl, .inr hC, rfl, _, rfl, ?_⟩
      by_cases el : xs.length = ys.length
      · refine ifF (by simp [el]) ?_
        refine ⟨_, rfl, a, _, 0, _, rfl, rfl, hS, atI_nat (j := 0) rfl, _, rfl, a, _, 1, _, rfl, rfl, hS, atI_nat (j := 1) rfl, b, c, xs, ys, rfl, rfl, hB, hC, Nat.le_of_lt (small1000 (by omega)), ?_⟩
        refine fun r H3 s3 hR => ⟨r, rfl, ⟨_, hR⟩, fun D nD => ?_⟩
        have hXY := dpA_app (dpA_same s3 hX) (dpA_same s3 hY)
        refine lc_tupS (K := K) (a := r) (xs := xs ++ ys) (ys := ((us ++ vs).map isInt).map V.bl) (by rw [List.length_append]; omega) nD hR (by simp [lx, ly]) (fun i x y H4 hx hy s4 R hq => ?_) (fun H4 s4 hD => ?_)
        · obtain ⟨d, h1, h2⟩ := dpA_get hXY hx
          refine ⟨_, rfl, x, d, rfl, .inl (dp_same s4 h2), ?_⟩
          have ey : y = .bl (isInt d) := by
            rw [List.map_map, List.getElem?_map, h1] at hy
            exact (Option.some.inj hy).symm
          rw [← ey]
          exact hq _ (Same.refl _)
        · refine ⟨D, _, rfl, SqL.of hD, ?_⟩
          have z : isRuleD (.tuple [.tuple us, .tuple vs]) = ((us ++ vs).map isInt).all id := by
            show (us.length == vs.length && (us ++ vs).all isInt) = _
            rw [show us.length = vs.length by omega, List.all_map]
            simp
          rw [← z]
          exact q _ (s3.trans s4)
      · refine ifT (by simp; omega) ?_
        have z : isRuleD (.tuple [.tuple us, .tuple vs]) = false := by
          show (us.length == vs.length && (us ++ vs).all isInt) = false
          rw [show (us.length == vs.length) = false by simp; omega]
          rfl
        rw [z] at q
        exact q H (Same.refl H)
    · refine ifT (by simp [e]) ?_
      have z := isRule_of_noPair (by simpa using e)
      rw [z] at q
      exact q H (Same.refl H)
end
end SG

namespace SG
open PySem PySem.Spec PyProof.Rows L2
section
variable {P : Program} {w : World} {K : PySem.W.Frag} {mg : Str → Option Value} {base : Heap}
def partOk : PyData → Bool
  | .tuple ns => ns.all isInt
  | _ => false
theorem isRule_parts (p q : PyData) : isRuleD (.tuple [p, q]) = (partOk p && partOk q && (match p, q with | .tuple xs, .tuple ys => xs.length == ys.length | _, _ => false)) := by
  cases p with
  | tuple xs =>
    cases q with
    | tuple ys =>
      show (xs.length == ys.length && (xs ++ ys).all isInt) = (xs.all isInt && ys.all isInt && (xs.length == ys.length))
      rw [List.all_append, Bool.and_comm]
    | _ => simp [isRuleD, partOk]
  | _ => cases q <;> simp [isRuleD, partOk]
def spRight (K : PySem.W.Frag) : Sp := fun vs H Q _ => ∃ (x : V) (d : PyData), vs = [x] ∧ Dq K H x d ∧ (d = .dict [] ∨ OkD d) ∧ (∀ ds, d = .tuple ds → ds.length ≤ 100) ∧ (∀ p ds, d = .tuple ds → p ∈ ds → ∀ ns, p = .tuple ns → ns.length ≤ 100) ∧ ∀ H2, Same H H2 → Q (.bl (isRuleD d)) H2
theorem ok_right {f : Addr} {fd : FuncData} (F : Fun K "_law_is_right" "_law_is_right" s__law_is_right f fd) (T : Txt mg) : GFn P w K mg base CX0 1 f fd ["_law_it"] (spRight K) := by
  refine gfun_ok F sc__law_is_right (fun vs H Q E h => ?_) (fun cdv A outer s H vs Q E hgu hr h => ?_)
  · obtain ⟨x, d, rfl, _⟩ := h
    rfl
  · obtain ⟨x, d, rfl, hd, ok, few, few2, q⟩ := h
    have nd := sc__law_is_right.nd
    refine ⟨_, (pss_cons (ps_if (PW.pt (pw_or (pt_not (pt_val (pe_callB (k_isi (K := K)) (by rfl) T.isinstance (by decide +kernel) (pa_cons (pv 0) (pa_cons (pe_bltn (v := .ty "tuple") (by rfl) T.tuple (by decide +kernel) rfl) pa_nil))))) (pw_or1 (pt_cmpR op_ne (pe_callB (k_len (K := K)) (by rfl) T.len (by decide +kernel) (pa_cons (pv 0) pa_nil)) pe_int (nomark _))))) (pss_one (ps_ret pe_bl)) pss_nil)
      (pss_cons (ps_for PassesOwn.never rfl (pi_tup (pv 0)) (pg_name (i := 1) nd rfl (Or.inl rfl))
        (pss_one (ps_if (PW.pt (pw_or (pt_not (pt_val (pe_callB (k_isi (K := K)) (by rfl) T.isinstance (by decide +kernel) (pa_cons (pv 1) (pa_cons (pe_bltn (v := .ty "tuple") (by rfl) T.tuple (by decide +kernel) rfl) pa_nil))))) (pw_or1 (pt_cmpR (k_neD (K := K) hr.units) (pe_lc (own := [("_law_n", 2)]) rfl nd (pi_tup (pv 1)) (blkOk_by (N := N__law_is_right) (sc := defScope s__law_is_right) (by decide +kernel)) (fun _ _ _ _ _ => (pg_name (i := 2) nd rfl (Or.inl rfl))) (fun _ _ _ _ _ => (pts_one (PW.pt (pw_or (pt_not (pt_val (pe_callB (k_isi (K := K)) (by rfl) T.isinstance (by decide +kernel) (pa_cons (pv 2) (pa_cons (pe_bltn (v := .ty "int") (by rfl) T.int (by decide +kernel) rfl) pa_nil))))) (pw_or1 (pt_val (pe_callB (k_isi (K := K)) (by rfl) T.isinstance (by decide +kernel) (pa_cons (pv 2) (pa_cons (pe_bltn (v := .ty "bool") (by rfl) T.bool (by decide +kernel) rfl) pa_nil))))))))) (fun _ _ _ _ _ => (pv 2))) (pe_lst pa_nil) (nomark _))))) (pss_one (ps_ret pe_bl)) pss_nil)))
      (pss_one (ps_ret (pe_cmpR op_eq (pe_callB (k_len (K := K)) (by rfl) T.len (by decide +kernel) (pa_cons (pe_ix (k_ixT (K := K)) (pv 0) pe_int (fun _ _ => rfl)) pa_nil)) (pe_callB (k_len (K := K)) (by rfl) T.len (by decide +kernel) (pa_cons (pe_ix (k_ixT (K := K)) (pv 0) pe_int (fun _ _ => rfl)) pa_nil)) (nomark _)))))), ?_⟩
    refine ⟨_, rfl, _, _, _, _, _, rfl, .ty "tuple", dq_ty hd, isi_tuple hd, _, rfl, ?_⟩
    by_cases e : isTup d = true
    · obtain ⟨ds, rfl⟩ : ∃ ds, d = .tuple ds := by cases d <;> simp [isTup] at e ⊢
      have okd : OkD (.tuple ds) := ok.resolve_left nofun
      obtain ⟨a, xs, rfl, hS, hA⟩ := dq_tuple hd
      refine ifF (by rw [e]; rfl) ⟨_, rfl, a, _, rfl, .inr hS, rfl, _, rfl, ?_⟩
      by_cases l2 : xs.length = 2
      · refine ifF (by simp [l2]) ?_
        obtain ⟨a', u, v, d1, d2, e1, rfl, hS2, hu, hv⟩ := dq_two hd (by rw [← dpA_len hA]; exact l2)
        injection e1 with e1
        subst e1
        -- both parts, one behind the other
        refine ⟨_, rfl, a, rfl, ⟨_, hS2⟩, for_tup (K := K) (a := a) (xs := [u, v]) (fun i σ H' => ∃ y1 y2, σ = [some (.ref a), y1, y2] ∧ Same H H' ∧ (0 < i → partOk d1 = true) ∧ (1 < i → partOk d2 = true))
          ⟨none, none, rfl, Same.refl H, fun h => absurd h (Nat.lt_irrefl _), fun h => absurd h (by omega)⟩ (fun i σ H' _ ⟨_, _, _, s, _⟩ => sameT s hS2) ?_ ?_⟩
        · rintro i y σ H2 hi ⟨y1, y2, rfl, s2, o1, o2⟩
          -- the part that is looked at
          obtain ⟨dp, hdp, hmem, go⟩ : ∃ dp, Dq K H2 y dp ∧ dp ∈ [d1, d2] ∧ ((partOk dp = true → (0 < i + 1 → partOk d1 = true) ∧ (1 < i + 1 → partOk d2 = true)) ∧ (partOk dp = false → isRuleD (.tuple [d1, d2]) = false)) := by
            rcases i with _ | _ | i
            · obtain rfl : u = y := Option.some.inj hi
              refine ⟨d1, dq_same s2 hu, by simp, fun h => ⟨fun _ => h, fun h2 => absurd h2 (by omega)⟩, fun h => ?_⟩
              rw [isRule_parts, h]
              rfl
            · obtain rfl : v = y := Option.some.inj hi
              refine ⟨d2, dq_same s2 hv, by simp, fun h => ⟨fun _ => o1 (by omega), fun _ => h⟩, fun h => ?_⟩
              rw [isRule_parts, h, Bool.and_false]
              rfl
            · simp at hi
          refine ⟨_, rfl, _, _, _, _, _, rfl, .ty "tuple", dq_ty hdp, isi_tuple hdp, _, rfl, ?_⟩
          have bad : partOk dp = false → Q (.bl false) H2 := fun h => by
            have z := go.2 h
            rw [z] at q
            exact q _ s2
          by_cases et : isTup dp = true
          · obtain ⟨ns, rfl⟩ : ∃ ns, dp = .tuple ns := by cases dp <;> simp [isTup] at et ⊢
            obtain ⟨b, zs, rfl, hB, hZ⟩ := dq_tuple hdp
            have ln := few2 _ _ rfl hmem ns rfl
            have lz := dpA_len hZ
            refine ifF (by rw [et]; rfl) ⟨_, rfl, b, rfl, ⟨_, hB⟩, fun D nD => ?_⟩
            refine lc_tupF (K := K) (a := b) (xs := zs) (ds := ns) (fun d => !isInt d) (by omega) nD hB hZ (by show 2 < 3; decide) (fun x d H3 hx hd3 R hR => ?_) (fun ys H3 s3 hD hY => ?_)
            · have hq : Dq K H3 x d := .inl hd3
              refine ⟨_, rfl, _, _, _, _, _, rfl, .ty "int", dq_ty hq, isi_int hq, _, rfl, ?_⟩
              by_cases e3 : isIntLike d = true
              · refine ifF (by rw [e3]; rfl) ⟨_, rfl, _, _, _, _, _, rfl, .ty "bool", dq_ty hq, isi_bool hq, _, rfl, ?_⟩
                have z : isBool d = (!isInt d) := by cases d <;> simp [isIntLike, isBool, isInt] at e3 ⊢
                rw [z]
                exact hR
              · refine ifT (by simp [e3]) ?_
                have z : (!isInt d) = true := by cases d <;> simp [isIntLike, isInt] at e3 ⊢
                rw [z] at hR
                exact hR
            · refine ⟨Nat.zero_le _, fun r nr => ?_⟩
              have s4 : Same H2 (upd H3 r (.lst [])) := s3.trans (same_new nr)
              have hD4 := same_new (o := .lst []) nr _ _ hD
              have lay : PyData.canLayAll0 ns = true := by
                have z := canLay_mem (ds := [d1, d2]) (by simpa only [PyData.canLay0] using okd.lay) hmem
                simpa only [PyData.canLay0] using z
              have dep : PyData.depthAll ns ≤ 60 := by
                have z := depth_mem hmem
                have z2 := okd.dep
                simp only [PyData.depth] at z z2
                omega
              refine ⟨.list (ns.filter fun d => !isInt d), .list [], .lst (SqL.of hD4) (dpA_same s4 hY), .lst (SqL.of upd_same) .nil, shaped_sub lay dep (fun e m => (List.mem_filter.mp m).1), rfl, ?_⟩
              have pe : (!PyData.eqv (.list (ns.filter fun d => !isInt d)) (.list [])) = !partOk (.tuple ns) := by
                rw [eqv_nil]
                show (!(ns.filter fun d => !isInt d).isEmpty) = !(ns.all isInt)
                congr 1
                rw [Bool.eq_iff_iff, List.isEmpty_iff, List.filter_eq_nil_iff, List.all_eq_true]
                simp
              refine ⟨!partOk (.tuple ns), by rw [pe], ?_⟩
              cases ep : partOk (.tuple ns) with
              | false => exact ifT (by rfl) (by
                  have z := go.2 ep
                  rw [z] at q
                  exact q _ (s2.trans s4))
              | true => exact ifF (by rfl) ⟨_, _, rfl, s2.trans s4, go.1 ep⟩
          · refine ifT (by simp [et]) ?_
            exact bad (by cases dp <;> simp [isTup, partOk] at et ⊢)
        · rintro σ H2 ⟨y1, y2, rfl, s2, o1, o2⟩
          have g1 := o1 (by show 0 < 2; decide)
          have g2 := o2 (by show 1 < 2; decide)
          obtain ⟨us, rfl⟩ : ∃ us, d1 = .tuple us := by cases d1 <;> simp [partOk] at g1 ⊢
          obtain ⟨ws, rfl⟩ : ∃ ws, d2 = .tuple ws := by cases d2 <;> simp [partOk] at g2 ⊢
          obtain ⟨b, xs1, rfl, hB, hX⟩ := dq_tuple (dq_same s2 hu)
          obtain ⟨c, xs2, rfl, hC, hY⟩ := dq_tuple (dq_same s2 hv)
          have hS3 := sameT s2 hS2
          refine ⟨_, rfl, a, _, 0, _, rfl, rfl, hS3, atI_nat (j := 0) rfl, b, _, rfl, .inr hB, _, rfl, a, _, 1, _, rfl, rfl, hS3, atI_nat (j := 1) rfl, c, _, rfl, .inr hC, rfl, ?_⟩
          have z : isRuleD (.tuple [.tuple us, .tuple ws]) = decide (V.int ((xs1.length : Nat) : Int) = V.int ((xs2.length : Nat) : Int)) := by
            rw [isRule_parts, g1, g2, dpA_len hX, dpA_len hY]
            by_cases h : us.length = ws.length
            · simp [h]
            · have h2 : ¬ V.int ((us.length : Nat) : Int) = V.int ((ws.length : Nat) : Int) := fun z => h (by have := V.int.inj z; omega)
              simp [h, h2]
          rw [z] at q
          exact q _ s2
      · refine ifT (by simp [l2]; omega) ?_
        have z : isRuleD (.tuple ds) = false := by
          have l3 := dpA_len hA
          cases h : isRuleD (.tuple ds) with
          | false => rfl
          | true =>
            unfold isRuleD at h
            split at h
            · rename_i e2
              injection e2 with e2
              rw [e2] at l3
              exact absurd l3 l2
            · cases h
        rw [z] at q
        exact q H (Same.refl H)
    · refine ifT (by simp [e]) ?_
      have z : isRuleD d = false := by cases d <;> simp [isTup, isRuleD] at e ⊢
      rw [z] at q
      exact q H (Same.refl H)
end
end SG

namespace SG
open PySem PySem.Spec PyProof.Rows L2
section
variable {P : Program} {w : World} {K : PySem.W.Frag} {mg : Str → Option Value} {base : Heap}
def spTerm (K : PySem.W.Frag) : Sp := fun vs H Q _ => ∃ (v : V) (fs cs : List Int) (n : Nat), vs = [v, .int n] ∧ RuleAt K H v fs cs ∧ Fit fs cs ∧ n ≤ 300 ∧
  ∀ (H2 : Hp) (x : Int), Same H H2 → (rowOf fs cs (n + 1))[n]? = some x → Q (.int x) H2
theorem ok_term {f f1 : Addr} {fd fd1 : FuncData} (F : Fun K "term" "term" s_term f fd) (F_terms : Fun K "terms" "terms" s_terms f1 fd1) (m_terms : mg "terms" = some (.ref f1)) (b_terms : Binds K fd1 ["rule", "many"] []) (T : Txt mg) : GFn P w K mg base CX0 2 f fd ["rule", "index"] (spTerm K) := by
  have G_terms : GFn P w K mg base CX0 1 f1 fd1 ["rule", "many"] (spTerms K) := ok_terms F_terms T
  refine gfun_ok F sc_term (fun vs H Q E h => ?_) (fun cdv A outer s H vs Q E hgu hr h => ?_)
  · obtain ⟨v, fs, cs, n, rfl, _⟩ := h
    rfl
  · obtain ⟨v, fs, cs, n, rfl, R, ft, hn, q⟩ := h
    have nd := sc_term.nd
    refine ⟨_, (pss_one (ps_ret (pe_ix (k_ixT (K := K)) (pe_g G_terms hgu (hr.mono (by decide)) (by rfl) m_terms F_terms.kp b_terms .nil pass0 (pa_cons (pv 0) (pa_cons (pe_op op_add (pv 1) pe_int) pa_nil))) (pv 1) (fun _ _ => rfl)))), ?_⟩
    refine ⟨_, rfl, _, rfl, _, _, rfl, rfl, v, fs, cs, n + 1, rfl, R, ft, by omega, fun p H2 s2 hp => ?_⟩
    have hl : n < (rowOf fs cs (n + 1)).length := by rw [rowOf_len]; omega
    have e : (rowOf fs cs (n + 1))[n]? = some (rowOf fs cs (n + 1))[n] := List.getElem?_eq_getElem hl
    refine ⟨_, rfl, p, _, n, _, rfl, rfl, hp, atI_nat (by rw [List.getElem?_map, e]; rfl), q H2 _ s2 e⟩

/-- what is asked of an item of the law's list -/
def Item (K : PySem.W.Frag) (H : Hp) (x : V) (d : PyData) : Prop := Dq K H x d ∧ (d = .dict [] ∨ OkD d) ∧ (∀ ds, d = .tuple ds → ds.length ≤ 100) ∧ (∀ p ds, d = .tuple ds → p ∈ ds → ∀ ns, p = .tuple ns → ns.length ≤ 100)
theorem tellB (b : Bool) : OkD (.list [.bool b, .bool b]) := by
  refine ⟨by simp [PyData.canLay0, PyData.canLayAll0], ?_, by simp [tellable, tellableAll], by simp [PyData.leavesShort, PyData.leavesShortAll], ?_⟩
  · simp only [PyData.depth, PyData.depthAll]
    omega
  · simp only [PyData.bulk, PyData.bulkAll]
    omega
/-- a thing's text, whatever it is -/
theorem repr_any {H : Hp} {x : V} {d : PyData} (h : Dq K H x d) (ok : d = .dict [] ∨ OkD d) : ∃ t : Str, ∀ (H2 : Hp), Same H H2 → ∀ R : VK, R (.str t) H2 → rRepr K [x] H2 R := by
  rcases ok with rfl | ok
  · rcases h with h | ⟨_, a, rfl, ha⟩
    · cases h
    · exact ⟨_, fun H2 s2 R hR => ⟨_, rfl, .inr ⟨a, rfl, s2 _ _ ha, hR⟩⟩⟩
  · rcases h with h | ⟨rfl, _⟩
    · exact ⟨_, fun H2 s2 R hR => ⟨_, rfl, .inl ⟨d, dp_same s2 h, ok.tell, Nat.le_trans ok.dep (by decide), ok.shown, hR⟩⟩⟩
    · exact absurd ok.tell (by simp [tellable])
def spSo (K : PySem.W.Frag) : Sp := fun vs H Q _ => ∃ (x : V) (d : PyData), vs = [x] ∧ Item K H x d ∧ ∀ H2, Same H H2 → Q (.bl true) H2
theorem ok_so {f f1 f2 f3 f4 f5 : Addr} {fd fd1 fd2 fd3 fd4 fd5 : FuncData} (hdg : base.NoDigits) (F : Fun K "_law_is_so" "_law_is_so" s__law_is_so f fd) (F_is_pair_of_tuples : Fun K "is_pair_of_tuples" "is_pair_of_tuples" s_is_pair_of_tuples f1 fd1) (m_is_pair_of_tuples : mg "is_pair_of_tuples" = some (.ref f1)) (b_is_pair_of_tuples : Binds K fd1 ["thing"] [])
    (F_is_tuple_of : Fun K "is_tuple_of" "is_tuple_of" s_is_tuple_of f2 fd2) (m_is_tuple_of : mg "is_tuple_of" = some (.ref f2)) (b_is_tuple_of : Binds K fd2 ["thing", "many"] []) (F_is_integer : Fun K "is_integer" "is_integer" s_is_integer f3 fd3) (m_is_integer : mg "is_integer" = some (.ref f3)) (b_is_integer : Binds K fd3 ["thing"] [])
    (F_is_rule : Fun K "is_rule" "is_rule" s_is_rule f4 fd4) (m_is_rule : mg "is_rule" = some (.ref f4)) (b_is_rule : Binds K fd4 ["thing"] []) (kb_is_rule_thing : KBinds K fd4 ["thing"] ["thing"] kwOne kwOne)
    (F__law_is_right : Fun K "_law_is_right" "_law_is_right" s__law_is_right f5 fd5) (m__law_is_right : mg "_law_is_right" = some (.ref f5)) (b__law_is_right : Binds K fd5 ["_law_it"] []) (T : Txt mg) :
    GFn P w K mg base CX0 4 f fd ["_law_it"] (spSo K) := by
  have G_is_rule : GFn P w K mg base CX0 3 f4 fd4 ["thing"] (spIsRule K) := ok_isRule F_is_rule F_is_pair_of_tuples m_is_pair_of_tuples b_is_pair_of_tuples F_is_tuple_of m_is_tuple_of b_is_tuple_of F_is_integer m_is_integer b_is_integer T
  have G__law_is_right : GFn P w K mg base CX0 1 f5 fd5 ["_law_it"] (spRight K) := ok_right F__law_is_right T
  refine gfun_ok F sc__law_is_so (fun vs H Q E h => ?_) (fun cdv A outer s H vs Q E hgu hr h => ?_)
  · obtain ⟨x, d, rfl, _⟩ := h
    rfl
  · obtain ⟨x, d, rfl, ⟨hd, ok, few, few2⟩, q⟩ := h
    have nd := sc__law_is_so.nd
    have fewR : ∀ xs ys, d = .tuple [.tuple xs, .tuple ys] → xs.length ≤ 100 ∧ ys.length ≤ 100 := fun xs ys e => ⟨few2 _ _ e (by simp) xs rfl, few2 _ _ e (by simp) ys rfl⟩
    obtain ⟨t, told⟩ := repr_any hd ok
    refine ⟨_, (pss_cons (ps_par (i := 1) (j := 2) rfl nd rfl rfl (by decide) rfl rfl (pa_cons (pe_callB (k_repr (K := K) hdg hgu hr) (by rfl) T.repr (by decide +kernel) (pa_cons (pv 0) pa_nil)) (pa_cons (pe_g G__law_is_right hgu (hr.mono (by decide)) (by rfl) m__law_is_right F__law_is_right.kp b__law_is_right .nil pass0 (pa_cons (pv 0) pa_nil)) pa_nil)) (by rfl))
      (pss_one (ps_ret (pe_and (pe_cmpR op_eq (pe_callB (k_repr (K := K) hdg hgu hr) (by rfl) T.repr (by decide +kernel) (pa_cons (pe_lst (pa_cons (pe_g G_is_rule hgu (hr.mono (by decide)) (by rfl) m_is_rule F_is_rule.kp b_is_rule .nil pass0 (pa_cons (pv 0) pa_nil)) (pa_cons (pe_gK0 G_is_rule hgu (hr.mono (by decide)) (by rfl) m_is_rule F_is_rule.kp kb_is_rule_thing pass0 (pk_cons (pv 0) pk_nil)) pa_nil))) pa_nil)) (pe_callB (k_repr (K := K) hdg hgu hr) (by rfl) T.repr (by decide +kernel) (pa_cons (pe_lst (pa_cons (pv 2) (pa_cons (pv 2) pa_nil))) pa_nil)) (nomark _)) (pe_one (pe_cmpR op_eq (pe_callB (k_repr (K := K) hdg hgu hr) (by rfl) T.repr (by decide +kernel) (pa_cons (pv 0) pa_nil)) (pv 1) (nomark _))))))), ?_⟩
    refine ⟨_, rfl, ?_⟩
    dsimp only [tNil]
    refine told H (Same.refl H) _ ?_
    refine ⟨_, rfl, x, d, rfl, hd, ok, few, few2, fun H1 s1 => ⟨_, _, rfl, ?_⟩⟩
    -- both ways of asking
    refine ⟨_, rfl, x, d, rfl, dq_same s1 hd, fewR, fun H2 s2 => ⟨_, rfl, x, d, rfl, dq_same (s1.trans s2) hd, fewR, fun H3 s3 => ⟨by show 2 ≤ sizeLine; decide, fun p np => ?_⟩⟩⟩
    have ob := tellB (isRuleD d)
    refine ⟨_, rfl, .inl ⟨.list [.bool (isRuleD d), .bool (isRuleD d)], .lst (SqL.of upd_same) (.cons (.bl _) (.cons (.bl _) .nil)), ob.tell, Nat.le_trans ob.dep (by decide), ob.shown, ?_⟩⟩
    refine ⟨_, rfl, _, rfl, by show 2 ≤ sizeLine; decide, fun p2 np2 => ?_⟩
    refine ⟨_, rfl, .inl ⟨.list [.bool (isRuleD d), .bool (isRuleD d)], .lst (SqL.of upd_same) (.cons (.bl _) (.cons (.bl _) .nil)), ob.tell, Nat.le_trans ob.dep (by decide), ob.shown, rfl, _, rfl, ?_⟩⟩
    refine ifT (by simp) ?_
    have s5 : Same H (upd (upd H3 p (.lst [.bl (isRuleD d), .bl (isRuleD d)])) p2 (.lst [.bl (isRuleD d), .bl (isRuleD d)])) := ((s1.trans s2).trans s3).trans ((same_new np).trans (same_new np2))
    refine ⟨_, rfl, ?_⟩
    dsimp only [tNil]
    refine told _ s5 _ ⟨_, rfl, rfl, ?_⟩
    have z : decide (V.str t = V.str t) = true := decide_eq_true rfl
    show Q (.bl (decide (V.str t = V.str t))) _
    rw [z]
    exact q _ s5
end
end SG

namespace SG
open PySem PySem.Spec PyProof.Rows L2
section
variable {P : Program} {w : World} {K : PySem.W.Frag} {mg : Str → Option Value} {base : Heap}
def Short : PyData → Prop
  | .tuple ns => ns.length ≤ 100
  | _ => True
def Shorts : PyData → Prop
  | .tuple ds => ds.length ≤ 100 ∧ ∀ p ∈ ds, Short p
  | _ => True
/-- a thing for the law's list, whatever is drawn yet -/
def Keep (K : PySem.W.Frag) (d l : Addr) (H : Hp) (x : V) : Prop := ∃ D, ∀ H2, Kept d l H H2 → Item K H2 x D
theorem Keep.mono {d l : Addr} {H H2 : Hp} {x : V} (h : Keep K d l H x) (k : Kept d l H H2) : Keep K d l H2 x := by
  obtain ⟨D, h⟩ := h
  exact ⟨D, fun H3 k3 => h H3 (k.trans k3)⟩
theorem keep_of {d l : Addr} {H : Hp} {x : V} {D : PyData} {n b : Nat} (h : St K d l H x D) (s : Sm n b D) (hn : n ≤ 50) (hb : b ≤ 3000) (sh : Shorts D) : Keep K d l H x := by
  refine ⟨D, fun H2 k => ⟨.inl (h H2 k), .inr (s.ok hn hb), fun ds e => ?_, fun p ds e hp ns e2 => ?_⟩⟩
  · subst e
    exact sh.1
  · subst e e2
    exact sh.2 _ hp
theorem ints_fit {fs : List Int} {B : Nat} (h : ∀ f ∈ fs, f.natAbs ≤ 10 ^ B) (hB : B ≤ 4000) : ∀ f ∈ fs, f.natAbs < 10 ^ 4300 := fun f hf =>
  Nat.lt_of_le_of_lt (h f hf) (Nat.pow_lt_pow_right (by decide) (by omega))
theorem cut_from (xs : List V) (n : Nat) : cutV xs (some (n : Int)) none = xs.drop n := by
  unfold cutV
  rw [HT.sIx_none, HT.sIx_nat]
  rcases Nat.le_total n xs.length with h | h
  · rw [Nat.min_eq_left h]
    exact List.take_of_length_le (by rw [List.length_drop]; omega)
  · rw [Nat.min_eq_right h, List.drop_length, List.drop_eq_nil_of_le h, List.take_nil]
/-- what is put in the place of a number -/
def Odd (K : PySem.W.Frag) (d l : Addr) (H : Hp) (x : V) : Prop := ∃ D, St K d l H x D ∧ Sm 1 2 D ∧ Short D
theorem pair_keep {d l p : Addr} {H : Hp} {c n b1 b2 : Nat} {u1 u2 : V} {E1 E2 : PyData} (D : Deck H d l c) (np : H p = none) (h1 : St K d l H u1 E1) (h2 : St K d l H u2 E2) (s1 : Sm n b1 E1) (s2 : Sm n b2 E2) (hn : n ≤ 40) (hb : b1 + b2 ≤ 2000) (t1 : Short E1) (t2 : Short E2) :
    Keep K d l (upd H p (.tup [u1, u2])) (.ref p) := by
  have k : Kept d l H (upd H p (.tup [u1, u2])) := .of (same_new np)
  refine keep_of (St.tup (D.upd np) (.inl (.inl upd_same)) (.cons (h1.mono k) (.cons (h2.mono k) .nil))) (SmA.tuple (.cons (s1.mono (Nat.le_refl n) (Nat.le_refl b1)) (.cons s2 (.nil n)))) (by omega) (by omega) ⟨by show 2 ≤ 100; decide, fun q hq => ?_⟩
  simp only [List.mem_cons, List.not_mem_nil, or_false] at hq
  rcases hq with rfl | rfl
  · exact t1
  · exact t2
/-- a row in which one number may be another thing -/
theorem bent_row {d l : Addr} {H : Hp} {x : V} {O : PyData} {fs : List Int} {i : Nat} (f8 : fs.length ≤ 8) (ff : ∀ f ∈ fs, f.natAbs < 10 ^ 4300) (sO : St K d l H x O) (mO : Sm 1 2 O) :
    StA K d l H ((fs.map V.int).take i ++ [x] ++ (fs.map V.int).drop (i + 1)) (dI (fs.take i) ++ [O] ++ dI (fs.drop (i + 1))) ∧ SmA 1 40 (dI (fs.take i) ++ [O] ++ dI (fs.drop (i + 1))) ∧ (dI (fs.take i) ++ [O] ++ dI (fs.drop (i + 1))).length ≤ 100 := by
  have e1 : (fs.map V.int).take i = (fs.take i).map V.int := List.map_take.symm
  have e2 : (fs.map V.int).drop (i + 1) = (fs.drop (i + 1)).map V.int := List.map_drop.symm
  have f1 : ∀ f ∈ fs.take i, f.natAbs < 10 ^ 4300 := fun f h => ff f (List.mem_of_mem_take h)
  have f2 : ∀ f ∈ fs.drop (i + 1), f.natAbs < 10 ^ 4300 := fun f h => ff f (List.mem_of_mem_drop h)
  have l1 : (fs.take i).length ≤ 8 := by rw [List.length_take]; omega
  have l2 : (fs.drop (i + 1)).length ≤ 8 := by rw [List.length_drop]; omega
  refine ⟨?_, ?_, ?_⟩
  · rw [e1, e2]
    exact .app (.app (.ints _) (.cons sO .nil)) (.ints _)
  · have z1 : SmA 1 8 (dI (fs.take i)) := (SmA.ints f1).mono (by decide) l1
    have z2 : SmA 1 8 (dI (fs.drop (i + 1))) := (SmA.ints f2).mono (by decide) l2
    have z3 : SmA 1 3 [O] := (SmA.cons mO (.nil 1)).mono (Nat.le_refl _) (by decide)
    exact (SmA.app z2 (SmA.app z3 z1)).mono (Nat.le_refl _) (by decide)
  · unfold dI
    simp only [List.length_append, List.length_map, List.length_singleton]
    omega
theorem sm_row {fs : List Int} (f8 : fs.length ≤ 8) (ff : ∀ f ∈ fs, f.natAbs < 10 ^ 4300) : Sm 2 40 (.tuple (dI fs)) := (SmA.tuple (SmA.ints ff)).mono (by decide) (by omega)
theorem short_row {fs : List Int} (f8 : fs.length ≤ 8) : Short (.tuple (dI fs)) := by
  show (dI fs).length ≤ 100
  unfold dI
  rw [List.length_map]
  omega
def spBent (K : PySem.W.Frag) : Sp := fun vs H Q _ => ∃ (d l : Addr) (c : Nat) (v : V) (fs cs : List Int), vs = [.ref d, v] ∧ Deck H d l c ∧ c < 900000 ∧ RuleAt K H v fs cs ∧ Fit fs cs ∧
  ∀ (x : V) (H2 : Hp), Keep K d l H2 x → Deck H2 d l (c + 3) → Kept d l H H2 → Q x H2
theorem ok_bent {f f1 f2 : Addr} {fd fd1 fd2 : FuncData} (F : Fun K "_law_bent" "_law_bent" s__law_bent f fd) (F__law_draw : Fun K "_law_draw" "_law_draw" s__law_draw f1 fd1) (m__law_draw : mg "_law_draw" = some (.ref f1)) (b__law_draw : Binds K fd1 ["_law_deck_here", "_law_bound"] [])
    (F__law_pick : Fun K "_law_pick" "_law_pick" s__law_pick f2 fd2) (m__law_pick : mg "_law_pick" = some (.ref f2)) (b__law_pick : Binds K fd2 ["_law_deck_here", "_law_some"] []) (T : Txt mg) : GFn P w K mg base CX0 3 f fd ["_law_deck_here", "_law_it"] (spBent K) := by
  have G__law_draw : GFn P w K mg base CX0 1 f1 fd1 ["_law_deck_here", "_law_bound"] spDraw := ok_draw F__law_draw T
  have G__law_pick : GFn P w K mg base CX0 2 f2 fd2 ["_law_deck_here", "_law_some"] (spPick K) := ok_pick F__law_pick F__law_draw m__law_draw b__law_draw T
  refine gfun_ok F sc__law_bent (fun vs H Q E h => ?_) (fun cdv A outer s H vs Q E hgu hr h => ?_)
  · obtain ⟨d, l, c, v, fs, cs, rfl, _⟩ := h
    rfl
  · obtain ⟨d, l, c, v, fs, cs, rfl, D0, hc, R0, ft, q⟩ := h
    have nd := sc__law_bent.nd
    refine ⟨_, (pss_cons (ps_asg (pe_tup (pa_cons (pe_g G__law_draw hgu (hr.mono (by decide)) (by rfl) m__law_draw F__law_draw.kp b__law_draw .nil pass0 (pa_cons (pv 0) (pa_cons pe_int pa_nil))) (pa_cons (pv 1) pa_nil))) (k_tg (K := K) (n := 2) rfl (pgs_cons (pg_name (i := 2) nd rfl (Or.inl rfl)) (pgs_cons (k_tg (K := K) (n := 2) rfl (pgs_cons (pg_name (i := 3) nd rfl (Or.inl rfl)) (pgs_cons (pg_name (i := 4) nd rfl (Or.inl rfl)) pgs_nil))) pgs_nil))))
      (pss_cons (ps_set (i := 5) nd rfl (Or.inl rfl) (pe_g G__law_pick hgu (hr.mono (by decide)) (by rfl) m__law_pick F__law_pick.kp b__law_pick .nil pass0 (pa_cons (pv 0) (pa_cons (pe_lst (pa_cons pe_bl (pa_cons pe_non (pa_cons pe_str (pa_cons (pe_tup (pa_cons pe_int pa_nil)) (pa_cons (pe_lst pa_nil) (pa_cons (pe_op op_pow pe_int pe_int) (pa_cons (pe_un un_neg (pe_op op_pow pe_int pe_int)) (pa_cons pe_bl (pa_cons pe_str pa_nil)))))))))) pa_nil))))
      (pss_cons (ps_set (i := 6) nd rfl (Or.inl rfl) (pe_g G__law_draw hgu (hr.mono (by decide)) (by rfl) m__law_draw F__law_draw.kp b__law_draw .nil pass0 (pa_cons (pv 0) (pa_cons (pe_op op_add (pe_callB (k_len (K := K)) (by rfl) T.len (by decide +kernel) (pa_cons (pv 3) pa_nil)) pe_int) pa_nil))))
      (pss_cons (ps_if (pt_cmpR op_eq (pv 2) pe_int (nomark _)) (pss_one (ps_ret (pe_tup (pa_cons (pe_slice (k_slU (K := K)) (pv 3) (po_some pe_int) po_none) (pa_cons (pv 4) pa_nil))))) pss_nil)
      (pss_cons (ps_if (pt_cmpR op_eq (pv 2) pe_int (nomark _)) (pss_one (ps_ret (pe_tup (pa_cons (pe_op (k_catU (K := K)) (pe_op (k_catU (K := K)) (pe_slice (k_slU (K := K)) (pv 3) po_none (po_some (pv 6))) (pe_tup (pa_cons (pv 5) pa_nil))) (pe_slice (k_slU (K := K)) (pv 3) (po_some (pe_op op_add (pv 6) pe_int)) po_none)) (pa_cons (pv 4) pa_nil))))) pss_nil)
      (pss_cons (ps_if (pt_cmpR op_eq (pv 2) pe_int (nomark _)) (pss_one (ps_ret (pe_tup (pa_cons (pv 3) (pa_cons (pe_op (k_catU (K := K)) (pe_op (k_catU (K := K)) (pe_slice (k_slU (K := K)) (pv 4) po_none (po_some (pv 6))) (pe_tup (pa_cons (pv 5) pa_nil))) (pe_slice (k_slU (K := K)) (pv 4) (po_some (pe_op op_add (pv 6) pe_int)) po_none)) pa_nil))))) pss_nil)
      (pss_one (ps_ret (pe_ix (k_ixL (K := K)) (pe_lst (pa_cons (pe_tup (pa_cons (pe_op (k_catU (K := K)) (pv 3) (pe_tup (pa_cons (pv 5) pa_nil))) (pa_cons (pe_op (k_catU (K := K)) (pv 4) (pe_tup (pa_cons pe_int pa_nil))) pa_nil))) (pa_cons (pe_callTy (k_listOf (K := K)) (by rfl) T.list (by decide +kernel) (pa_cons (pv 1) pa_nil)) (pa_cons (pe_tup (pa_cons (pe_callTy (k_listOf (K := K)) (by rfl) T.list (by decide +kernel) (pa_cons (pv 3) pa_nil)) (pa_cons (pv 4) pa_nil))) (pa_cons (pe_op (k_catU (K := K)) (pv 1) (pe_tup (pa_cons (pe_tup pa_nil) pa_nil))) (pa_cons (pe_tup (pa_cons (pv 1) pa_nil)) pa_nil)))))) (pe_op op_sub (pv 2) pe_int) (fun _ _ => rfl)))))))))), ?_⟩
    refine ⟨_, rfl, d, l, c, _, rfl, D0, by omega, by decide, by decide, fun way H1 w0 w1 D1 k1 => ⟨_, rfl, by show 2 ≤ sizeLine; decide, fun t nt => ?_⟩⟩
    obtain ⟨a, b, e, rfl, hA, hB, hC⟩ := id R0
    have D2 := D1.upd (o := .tup [.int way, .ref a]) nt
    have k2 : Kept d l H (upd H1 t (.tup [.int way, .ref a])) := k1.trans (.of (same_new nt))
    have hA2 := k2.tup D0 hA
    refine ⟨t, _, rfl, .inl (.inl upd_same), rfl, _, _, rfl, _, _, rfl, ⟨a, _, rfl, hA2, rfl, _, _, rfl, _, _, rfl, rfl, rfl, ?_⟩⟩
    have hB2 := k2.tup D0 hB
    have hC2 := k2.tup D0 hC
    generalize hG : upd H1 t (.tup [.int way, .ref a]) = H2 at D2 k2 hA2 hB2 hC2 ⊢
    -- the odd thing
    refine ⟨_, rfl, (by show 1 ≤ sizeLine; decide), fun t1 nt1 => ⟨Nat.zero_le _, fun l1 nl1 => ⟨_, _, rfl, rfl, ⟨by decide, by decide, by decide⟩, _, _, rfl, rfl, ⟨by decide, by decide, by decide⟩, _, rfl, (by show 9 ≤ sizeLine; decide), fun g ng => ?_⟩⟩⟩
    have m1 := same_new (o := .tup [.int 1]) nt1
    have m2 := same_new (o := .lst []) nl1
    have m3 := same_new (o := .lst [.bl true, .non, .str "1", .ref t1, .ref l1, .int (10 ^ (59 : Int).toNat), .int (-(10 ^ (59 : Int).toNat)), .bl false, .str ""]) ng
    have D4 := D2.same ((m1.trans m2).trans m3)
    have k4 : Kept d l H _ := k2.trans (.of ((m1.trans m2).trans m3))
    have ht1 := m3 _ _ (m2 _ _ (show (upd H2 t1 (.tup [.int 1])) t1 = some (.tup [.int 1]) from upd_same))
    have hl1 := m3 _ _ (show (upd (upd H2 t1 (.tup [.int 1])) l1 (.lst [])) l1 = some (.lst []) from upd_same)
    obtain ⟨gd, gl⟩ := (D2.same (m1.trans m2)).ne ng
    obtain ⟨l1d, l1l⟩ := (D2.same m1).ne nl1
    have odd : ∀ x ∈ [V.bl true, .non, .str "1", .ref t1, .ref l1, .int (10 ^ (59 : Int).toNat), .int (-(10 ^ (59 : Int).toNat)), .bl false, .str ""], Odd K d l (upd (upd (upd H2 t1 (.tup [.int 1])) l1 (.lst [])) g (.lst [.bl true, .non, .str "1", .ref t1, .ref l1, .int (10 ^ (59 : Int).toNat), .int (-(10 ^ (59 : Int).toNat)), .bl false, .str ""])) x := by
      intro x hx
      simp only [List.mem_cons, List.not_mem_nil, or_false] at hx
      rcases hx with rfl | rfl | rfl | rfl | rfl | rfl | rfl | rfl | rfl
      · exact ⟨_, .bl _, ⟨by decide, by decide, by decide, by decide, by decide⟩, trivial⟩
      · exact ⟨_, .non, ⟨by decide, by decide, by decide, by decide, by decide⟩, trivial⟩
      · exact ⟨_, .str _, ⟨by decide +kernel, by decide +kernel, by decide +kernel, by decide +kernel, by decide +kernel⟩, trivial⟩
      · exact ⟨.tuple [.int 1], .tup D4 (.inl (.inl ht1)) (.cons (.int 1) .nil), ⟨by decide +kernel, by decide +kernel, by decide +kernel, by decide +kernel, by decide +kernel⟩, by show 1 ≤ 100; decide⟩
      · exact ⟨.list [], .lst hl1 l1d l1l .nil, ⟨by decide +kernel, by decide +kernel, by decide +kernel, by decide +kernel, by decide +kernel⟩, trivial⟩
      · exact ⟨_, .int _, (Sm.int (by decide +kernel)).mono (by decide) (by decide), trivial⟩
      · exact ⟨_, .int _, (Sm.int (by decide +kernel)).mono (by decide) (by decide), trivial⟩
      · exact ⟨_, .bl _, ⟨by decide, by decide, by decide, by decide, by decide⟩, trivial⟩
      · exact ⟨_, .str _, ⟨by decide +kernel, by decide +kernel, by decide +kernel, by decide +kernel, by decide +kernel⟩, trivial⟩
    refine ⟨d, l, g, c + 1, _, rfl, D4, by omega, SqL.of upd_same, gl, by simp, (by show 9 ≤ 1000; decide), fun x H5 hx D5 k5 => ?_⟩
    have ox : Odd K d l H5 x := by
      obtain ⟨O, h1, h2⟩ := odd x hx
      exact ⟨O, h1.mono k5, h2⟩
    have k5' : Kept d l H H5 := k4.trans k5
    have hB5 := k5'.tup D0 hB
    -- the place
    refine ⟨_, rfl, _, rfl, b, _, rfl, .inr hB5, _, _, rfl, rfl, d, l, c + 1 + 1, _, rfl, D5, by omega, ?_, ?_, fun at_ H6 a0 a1 D6 k6 => ?_⟩
    · have := ft.2.1
      rw [List.length_map]
      omega
    · have := ft.2.1
      rw [List.length_map]
      omega
    have k6' : Kept d l H H6 := k5'.trans k6
    have hA6 := k6'.tup D0 hA
    have hB6 := k6'.tup D0 hB
    have hC6 := k6'.tup D0 hC
    obtain ⟨O, sO, mO, shO⟩ : Odd K d l H6 x := by
      obtain ⟨O, h1, h2⟩ := ox
      exact ⟨O, h1.mono k6, h2⟩
    have fin : ∀ (y : V) (H7 : Hp), Same H6 H7 → Keep K d l H7 y → Q y H7 := fun y H7 s7 ky => q y H7 ky ((D6.same s7).mono (by omega)) (k6'.trans (.of s7))
    have f8 := ft.2.1
    have c8 : cs.length ≤ 8 := by have := ft.1; omega
    have ffs := ints_fit ft.2.2.1 (by decide)
    have fcs := ints_fit ft.2.2.2 (by decide)
    have stB : ∀ {H7 : Hp}, Same H6 H7 → St K d l H7 (.ref b) (.tuple (dI fs)) := fun s7 => .tup (D6.same s7) (sameT s7 hB6) (.ints fs)
    have stC : ∀ {H7 : Hp}, Same H6 H7 → St K d l H7 (.ref e) (.tuple (dI cs)) := fun s7 => .tup (D6.same s7) (sameT s7 hC6) (.ints cs)
    obtain ⟨i, rfl⟩ : ∃ i : Nat, at_ = (i : Int) := ⟨at_.toNat, by omega⟩
    refine ⟨_, rfl, rfl, _, rfl, ite2 (fun w => ?_) (fun n0 => ?_)⟩
    · -- the first one is left out
      refine ⟨_, rfl, _, rfl, b, _, rfl, hB6, fun z H7 s7 hz => ⟨_, rfl, (by show 2 ≤ sizeLine; decide), fun p np => ?_⟩⟩
      rw [show (some (1 : Int)) = some ((1 : Nat) : Int) from rfl, cut_from, ← List.map_drop] at hz
      have g8 : (fs.drop 1).length ≤ 8 := by rw [List.length_drop]; omega
      exact fin _ _ (s7.trans (same_new np)) (pair_keep (D6.same s7) np (.tup (D6.same s7) hz (.ints _)) (stC s7) (sm_row g8 fun f h => ffs f (List.mem_of_mem_drop h)) (sm_row c8 fcs) (by decide) (by decide) (short_row g8) (short_row c8))
    refine ⟨_, rfl, rfl, _, rfl, ite2 (fun w => ?_) (fun n1 => ?_)⟩
    · -- one of the firsts otherwise
      refine ⟨_, rfl, _, rfl, _, rfl, b, _, rfl, hB6, fun z1 H7 s7 hz1 => ⟨_, rfl, (by show 1 ≤ sizeLine; decide), fun o no => ⟨z1, o, _, _, rfl, rfl, sameT (same_new no) hz1, .inl (.inl upd_same), ?_, fun z2 H8 s8 hz2 => ?_⟩⟩⟩
      · rw [cut_to, List.length_take, List.length_map]
        exact Nat.le_of_lt (small1000 (by show _ + 1 ≤ 1000; omega))
      have s8' := (s7.trans (same_new (o := .tup [x]) no)).trans s8
      refine ⟨_, rfl, _, rfl, _, _, rfl, rfl, _, rfl, b, _, rfl, sameT s8' hB6, fun z3 H9 s9 hz3 => ⟨z2, z3, _, _, rfl, rfl, sameT s9 hz2, hz3, ?_, fun z4 H10 s10 hz4 => ⟨_, rfl, (by show 2 ≤ sizeLine; decide), fun p np => ?_⟩⟩⟩
      · rw [cut_to, show ((i : Int) + 1) = ((i + 1 : Nat) : Int) by omega, cut_from]
        simp only [List.length_append, List.length_take, List.length_drop, List.length_map, List.length_singleton]
        exact Nat.le_of_lt (small1000 (by omega))
      · rw [cut_to, show ((i : Int) + 1) = ((i + 1 : Nat) : Int) by omega, cut_from] at hz4
        have s10' := (s8'.trans s9).trans s10
        obtain ⟨g1, g2, g3⟩ := bent_row (H := H10) (i := i) f8 ffs (sO.mono (.of s10')) mO
        exact fin _ _ (s10'.trans (same_new np)) (pair_keep (D6.same s10') np (.tup (D6.same s10') hz4 g1) (stC s10') g2.tuple (sm_row c8 fcs) (by decide) (by decide) g3 (short_row c8))
    refine ⟨_, rfl, rfl, _, rfl, ite2 (fun w => ?_) (fun n2 => ?_)⟩
    · -- one of the factors otherwise
      refine ⟨_, rfl, _, rfl, _, rfl, _, rfl, e, _, rfl, hC6, fun z1 H7 s7 hz1 => ⟨_, rfl, (by show 1 ≤ sizeLine; decide), fun o no => ⟨z1, o, _, _, rfl, rfl, sameT (same_new no) hz1, .inl (.inl upd_same), ?_, fun z2 H8 s8 hz2 => ?_⟩⟩⟩
      · rw [cut_to, List.length_take, List.length_map]
        exact Nat.le_of_lt (small1000 (by show _ + 1 ≤ 1000; omega))
      have s8' := (s7.trans (same_new (o := .tup [x]) no)).trans s8
      refine ⟨_, rfl, _, rfl, _, _, rfl, rfl, _, rfl, e, _, rfl, sameT s8' hC6, fun z3 H9 s9 hz3 => ⟨z2, z3, _, _, rfl, rfl, sameT s9 hz2, hz3, ?_, fun z4 H10 s10 hz4 => ⟨(by show 2 ≤ sizeLine; decide), fun p np => ?_⟩⟩⟩
      · rw [cut_to, show ((i : Int) + 1) = ((i + 1 : Nat) : Int) by omega, cut_from]
        simp only [List.length_append, List.length_take, List.length_drop, List.length_map, List.length_singleton]
        exact Nat.le_of_lt (small1000 (by omega))
      · rw [cut_to, show ((i : Int) + 1) = ((i + 1 : Nat) : Int) by omega, cut_from] at hz4
        have s10' := (s8'.trans s9).trans s10
        obtain ⟨g1, g2, g3⟩ := bent_row (H := H10) (i := i) c8 fcs (sO.mono (.of s10')) mO
        exact fin _ _ (s10'.trans (same_new np)) (pair_keep (D6.same s10') np (stB s10') (.tup (D6.same s10') hz4 g1) (sm_row f8 ffs) g2.tuple (by decide) (by decide) (short_row f8) g3)
    refine ⟨_, rfl, _, rfl, (by show 1 ≤ sizeLine; decide), fun o no => ⟨b, o, _, _, rfl, rfl, sameT (same_new no) hB6, .inl (.inl upd_same), ?_, fun z1 H7 s7 hz1 => ?_⟩⟩
    · rw [List.length_map]
      exact Nat.le_of_lt (small1000 (by show _ + 1 ≤ 1000; omega))
    have t7 := (same_new no).trans s7
    refine ⟨_, rfl, (by show 1 ≤ sizeLine; decide), fun o2 no2 => ⟨e, o2, _, _, rfl, rfl, sameT (t7.trans (same_new no2)) hC6, .inl (.inl upd_same), ?_, fun z2 H8 s8 hz2 => ⟨(by show 2 ≤ sizeLine; decide), fun p1 np1 => ?_⟩⟩⟩
    · rw [List.length_map]
      exact Nat.le_of_lt (small1000 (by show _ + 1 ≤ 1000; omega))
    have t8 := (t7.trans (same_new no2)).trans s8
    have t9 := t8.trans (same_new (o := .tup [.ref z1, .ref z2]) np1)
    refine ⟨_, rfl, a, _, rfl, .inr (sameT t9 hA6), fun q1 nq1 => ?_⟩
    have t10 := t9.trans (same_new (o := .lst [.ref b, .ref e]) nq1)
    refine ⟨_, rfl, b, _, rfl, .inr (sameT t10 hB6), fun q2 nq2 => ?_⟩
    have t11 := t10.trans (same_new (o := .lst (fs.map V.int)) nq2)
    refine ⟨_, rfl, (by show 2 ≤ sizeLine; decide), fun p2 np2 => ?_⟩
    have t12 := t11.trans (same_new (o := .tup [.ref q2, .ref e]) np2)
    refine ⟨_, rfl, (by show 0 ≤ sizeLine; decide), fun o3 no3 => ⟨(by show 1 ≤ sizeLine; decide), fun o4 no4 => ?_⟩⟩
    have t13 := (t12.trans (same_new (o := .tup []) no3)).trans (same_new (o := .tup [.ref o3]) no4)
    refine ⟨a, o4, _, _, rfl, rfl, sameT t13 hA6, .inl (.inl upd_same), (by show 3 ≤ sizeLine; decide), fun z3 H9 s9 hz3 => ⟨_, rfl, (by show 1 ≤ sizeLine; decide), fun p3 np3 => ⟨(by show 5 ≤ sizeLine; decide), fun g2 ng2 => ?_⟩⟩⟩
    have t14 := (t13.trans s9).trans (same_new (o := .tup [.ref a]) np3)
    have t15 := t14.trans (same_new (o := .lst [.ref p1, .ref q1, .ref p2, .ref z3, .ref p3]) ng2)
    have D15 := D6.same t15
    have e15 : Same H9 (upd (upd H9 p3 (.tup [.ref a])) g2 (.lst [.ref p1, .ref q1, .ref p2, .ref z3, .ref p3])) := (same_new np3).trans (same_new ng2)
    have h3 := e15 
    have hz3' := sameT e15 hz3
    obtain ⟨q1d, q1l⟩ := (D6.same t9).ne nq1
    obtain ⟨q2d, q2l⟩ := (D6.same t10).ne nq2
    refine ⟨_, rfl, _, _, rfl, rfl, ?_⟩
    have wy : way = 3 ∨ way = 4 ∨ way = 5 ∨ way = 6 ∨ way = 7 := by
      have m0 : way ≠ 0 := fun h => n0 (by rw [h]; rfl)
      have m1 : way ≠ 1 := fun h => n1 (by rw [h]; rfl)
      have m2 : way ≠ 2 := fun h => n2 (by rw [h]; rfl)
      omega
    have g13 := (((same_new (o := .tup []) no3).trans (same_new (o := .tup [.ref o3]) no4)).trans s9).trans e15
    have g12 := (same_new (o := .tup [.ref q2, .ref e]) np2).trans g13
    have g11 := (same_new (o := .lst (fs.map V.int)) nq2).trans g12
    have g10 := (same_new (o := .lst [.ref b, .ref e]) nq1).trans g11
    have g8 := (same_new (o := .tup [.ref z1, .ref z2]) np1).trans g10
    have g7 := ((same_new no2).trans s8).trans g8
    have hp1 := g10 _ _ upd_same
    have hq1 := g11 _ _ upd_same
    have hq2 := g12 _ _ upd_same
    have hp2 := g13 _ _ upd_same
    have hp3 : (upd (upd H9 p3 (.tup [.ref a])) g2 (.lst [.ref p1, .ref q1, .ref p2, .ref z3, .ref p3])) p3 = some (.tup [.ref a]) := same_new ng2 _ _ upd_same
    have ho3 := (((same_new (o := .tup [.ref o3]) no4).trans s9).trans e15) _ _ upd_same
    have hz1' := sameT g7 hz1
    have hz2' := sameT g8 hz2
    have hA7 := sameT t15 hA6
    have sb := stB t15
    have se := stC t15
    have so := sO.mono (.of t15)
    have hg2 : (upd (upd H9 p3 (.tup [.ref a])) g2 (.lst [.ref p1, .ref q1, .ref p2, .ref z3, .ref p3])) g2 = some (.lst [.ref p1, .ref q1, .ref p2, .ref z3, .ref p3]) := upd_same
    generalize upd (upd H9 p3 (.tup [.ref a])) g2 (.lst [.ref p1, .ref q1, .ref p2, .ref z3, .ref p3]) = HF at D15 ho3 hp1 hq1 hq2 hp2 hp3 hz1' hz2' hz3' hA7 sb se so hg2 t15 ⊢
    have sz1 : St K d l HF (.ref z1) (.tuple (dI fs ++ [O])) := .tup D15 hz1' (.app (.ints fs) (.cons so .nil))
    have sz2 : St K d l HF (.ref z2) (.tuple (dI cs ++ [.int 0])) := .tup D15 hz2' (.app (.ints cs) (.cons (.int 0) .nil))
    have sa : St K d l HF (.ref a) (.tuple [.tuple (dI fs), .tuple (dI cs)]) := .tup D15 hA7 (.cons sb (.cons se .nil))
    have sq1 : St K d l HF (.ref q1) (.list [.tuple (dI fs), .tuple (dI cs)]) := .lst hq1 q1d q1l (.cons sb (.cons se .nil))
    have sq2 : St K d l HF (.ref q2) (.list (dI fs)) := .lst hq2 q2d q2l (.ints fs)
    have mb := sm_row f8 ffs
    have me := sm_row c8 fcs
    have mz1 : Sm 2 40 (.tuple (dI fs ++ [O])) := (SmA.tuple (SmA.app (SmA.cons mO (.nil 1)) ((SmA.ints ffs).mono (Nat.zero_le _) (Nat.le_refl _)))).mono (Nat.le_refl _) (by omega)
    have mz2 : Sm 2 40 (.tuple (dI cs ++ [.int 0])) := (SmA.tuple (SmA.app (SmA.cons (Sm.int (i := 0) (by decide +kernel)) (.nil 0)) (SmA.ints fcs))).mono (by decide) (by omega)
    have mq2 : Sm 2 40 (.list (dI fs)) := (SmA.list (SmA.ints ffs)).mono (by decide) (by omega)
    have mae : SmA 2 100 [.tuple (dI fs), .tuple (dI cs)] := (SmA.cons mb (SmA.cons me (.nil 2))).mono (by decide) (by decide)
    have hsb := short_row f8
    have hse := short_row c8
    have hz1s : Short (.tuple (dI fs ++ [O])) := by
      show (dI fs ++ [O]).length ≤ 100
      unfold dI
      simp only [List.length_append, List.length_map, List.length_singleton]
      omega
    have hz2s : Short (.tuple (dI cs ++ [.int 0])) := by
      show (dI cs ++ [PyData.int 0]).length ≤ 100
      unfold dI
      simp only [List.length_append, List.length_map, List.length_singleton]
      omega
    have fin' : ∀ y, Keep K d l HF y → Q y HF := fun y ky => fin y HF t15 ky
    rcases wy with rfl | rfl | rfl | rfl | rfl
    · refine ⟨g2, _, 0, _, rfl, rfl, SqL.of hg2, atI_nat (j := 0) rfl, fin' _ ?_⟩
      exact keep_of (St.tup D15 (.inl (.inl hp1)) (.cons sz1 (.cons sz2 .nil))) (SmA.cons mz1 (SmA.cons mz2 (.nil 2))).tuple (by decide) (by decide) ⟨by show 2 ≤ 100; decide, by simpa using And.intro hz1s hz2s⟩
    · refine ⟨g2, _, 1, _, rfl, rfl, SqL.of hg2, atI_nat (j := 1) rfl, fin' _ ?_⟩
      exact keep_of sq1 mae.list (by decide) (by decide) trivial
    · refine ⟨g2, _, 2, _, rfl, rfl, SqL.of hg2, atI_nat (j := 2) rfl, fin' _ ?_⟩
      exact keep_of (St.tup D15 (.inl (.inl hp2)) (.cons sq2 (.cons se .nil))) (SmA.cons mq2 (SmA.cons me (.nil 2))).tuple (by decide) (by decide) ⟨by show 2 ≤ 100; decide, by simpa [Short] using hse⟩
    · refine ⟨g2, _, 3, _, rfl, rfl, SqL.of hg2, atI_nat (j := 3) rfl, fin' _ ?_⟩
      exact keep_of (St.tup D15 hz3' (.cons sb (.cons se (.cons (.tup D15 (.inl (.inl ho3)) .nil) .nil)))) (SmA.cons mb (SmA.cons me (SmA.cons ((SmA.nil 1).tuple) (.nil 2)))).tuple (by decide) (by decide) ⟨by show 3 ≤ 100; decide, by simpa [Short] using And.intro hsb hse⟩
    · refine ⟨g2, _, 4, _, rfl, rfl, SqL.of hg2, atI_nat (j := 4) rfl, fin' _ ?_⟩
      exact keep_of (St.tup D15 (.inl (.inl hp3)) (.cons sa .nil)) (SmA.cons mae.tuple (.nil 3)).tuple (by decide) (by decide) ⟨by show 1 ≤ 100; decide, by simp [Short]⟩
end
end SG

namespace SG
open PySem PySem.Spec PyProof.Rows L2
section
variable {P : Program} {w : World} {K : PySem.W.Frag} {mg : Str → Option Value} {base : Heap}

/-! ### the law's written things -/
section
variable {d l : Addr} {c : Nat}
def LitE (K : PySem.W.Frag) (d l : Addr) (c : Nat) (t : TE) (D : PyData) : Prop := ∀ (σ : L2.St) (H : Hp) (Q : VK), Deck H d l c → (∀ x H2, Same H H2 → Deck H2 d l c → St K d l H2 x D → Q x H2) → t σ H Q
def LitA (K : PySem.W.Frag) (d l : Addr) (c : Nat) (t : TA) (ds : List PyData) : Prop := ∀ (σ : L2.St) (H : Hp) (Q : List V → Hp → Prop), Deck H d l c → (∀ xs H2, Same H H2 → Deck H2 d l c → StA K d l H2 xs ds → xs.length = ds.length → Q xs H2) → t σ H Q
def LitK (K : PySem.W.Frag) (d l : Addr) (c : Nat) (t : TA) (n : Nat) : Prop := ∀ (σ : L2.St) (H : Hp) (Q : List V → Hp → Prop), Deck H d l c → (∀ xs H2, Same H H2 → Deck H2 d l c → (∀ x ∈ xs, Keep K d l H2 x) → xs.length = n → Q xs H2) → t σ H Q
theorem LitE.non : LitE K d l c (tC .non) .none := fun σ H Q D q => q _ H (Same.refl H) D .non
theorem LitE.bl {b : Bool} : LitE K d l c (tC (.bl b)) (.bool b) := fun σ H Q D q => q _ H (Same.refl H) D (.bl b)
theorem LitE.int {i : Int} : LitE K d l c (tC (.int i)) (.int i) := fun σ H Q D q => q _ H (Same.refl H) D (.int i)
theorem LitE.str {t : Str} : LitE K d l c (tC (.str t)) (.str t) := fun σ H Q D q => q _ H (Same.refl H) D (.str t)
theorem LitA.nil : LitA K d l c tNil [] := fun σ H Q D q => q [] H (Same.refl H) D .nil rfl
theorem LitA.cons {t : TE} {ts : TA} {D : PyData} {ds : List PyData} (a : LitE K d l c t D) (b : LitA K d l c ts ds) : LitA K d l c (tCons t ts) (D :: ds) := fun σ H Q D0 q =>
  a σ H _ D0 fun x H1 s1 D1 st => b σ H1 _ D1 fun xs H2 s2 D2 sts e => q _ _ (s1.trans s2) D2 (.cons (st.mono (.of s2)) sts) (congrArg (· + 1) e)
theorem LitE.tup {t : TA} {ds : List PyData} (a : LitA K d l c t ds) (h : ds.length ≤ 1000) : LitE K d l c (tTup t) (.tuple ds) := fun σ H Q D0 q =>
  a σ H _ D0 fun xs H1 s1 D1 st e => ⟨Nat.le_of_lt (small1000 (by omega)), fun p np => q _ _ (s1.trans (same_new np)) (D1.upd np) (.tup (D1.upd np) (.inl (.inl upd_same)) (st.mono (.of (same_new np))))⟩
theorem LitE.lst {t : TA} {ds : List PyData} (a : LitA K d l c t ds) (h : ds.length ≤ 1000) : LitE K d l c (tLst t) (.list ds) := fun σ H Q D0 q =>
  a σ H _ D0 fun xs H1 s1 D1 st e => ⟨Nat.le_of_lt (small1000 (by omega)), fun p np => q _ _ (s1.trans (same_new np)) (D1.upd np) (.lst upd_same (D1.ne np).1 (D1.ne np).2 (st.mono (.of (same_new np))))⟩
theorem LitK.nil : LitK K d l c tNil 0 := fun σ H Q D q => q [] H (Same.refl H) D (fun x hx => nomatch hx) rfl
theorem LitK.cons {t : TE} {ts : TA} {D : PyData} {n : Nat} (a : LitE K d l c t D) (m : Sm 20 200 D) (sh : Shorts D) (b : LitK K d l c ts n) : LitK K d l c (tCons t ts) (n + 1) := fun σ H Q D0 q =>
  a σ H _ D0 fun x H1 s1 D1 st => b σ H1 _ D1 fun xs H2 s2 D2 ks e => by
    refine q _ _ (s1.trans s2) D2 (fun y hy => ?_) (congrArg (· + 1) e)
    rcases List.mem_cons.mp hy with rfl | hy
    · exact keep_of (st.mono (.of s2)) m (by decide) (by decide) sh
    · exact ks y hy
theorem LitK.dict {ts : TA} {n : Nat} (b : LitK K d l c ts n) : LitK K d l c (tCons tDNewK ts) (n + 1) := fun σ H Q D0 q p np =>
  b σ _ _ (D0.upd np) fun xs H2 s2 D2 ks e => by
    refine q _ _ ((same_new np).trans s2) D2 (fun y hy => ?_) (congrArg (· + 1) e)
    rcases List.mem_cons.mp hy with rfl | hy
    · have hp := s2 _ _ (show (upd H p (.dK [])) p = some (.dK []) from upd_same)
      refine ⟨.dict [], fun H3 k3 => ⟨.inr ⟨rfl, p, rfl, k3 _ _ hp (D0.ne np).1 (D0.ne np).2⟩, .inl rfl, nofun, nofun⟩⟩
    · exact ks y hy
theorem RuleAt.kept {H H2 : Hp} {v : V} {fs cs : List Int} (R : RuleAt K H v fs cs) (D : Deck H d l c) (k : Kept d l H H2) : RuleAt K H2 v fs cs := by
  obtain ⟨a, b, e, rfl, h1, h2, h3⟩ := R
  exact ⟨a, b, e, rfl, k.tup D h1, k.tup D h2, k.tup D h3⟩
theorem RuleAt.same {H H2 : Hp} {v : V} {fs cs : List Int} (R : RuleAt K H v fs cs) (s : Same H H2) : RuleAt K H2 v fs cs := by
  obtain ⟨a, b, e, rfl, h1, h2, h3⟩ := R
  exact ⟨a, b, e, rfl, sameT s h1, sameT s h2, sameT s h3⟩
theorem RuleAt.keep {H : Hp} {v : V} {fs cs : List Int} (R : RuleAt K H v fs cs) (D : Deck H d l c) (ft : Fit fs cs) : Keep K d l H v := by
  obtain ⟨a, b, e, rfl, h1, h2, h3⟩ := R
  have f8 := ft.2.1
  have c8 : cs.length ≤ 8 := by have := ft.1; omega
  have mb := sm_row f8 (ints_fit ft.2.2.1 (by decide))
  have me := sm_row c8 (ints_fit ft.2.2.2 (by decide))
  refine keep_of (St.tup D h1 (.cons (.tup D h2 (.ints fs)) (.cons (.tup D h3 (.ints cs)) .nil))) (SmA.cons mb (SmA.cons me (.nil 2))).tuple (by decide) (by decide) ⟨by show 2 ≤ 100; decide, ?_⟩
  have hsb := short_row f8
  have hse := short_row c8
  simpa [Short] using And.intro hsb hse
/-- the rule that is drawn -/
theorem rule_drawn {σ : L2.St} {H : Hp} {Q : VK} (e : σ[1]? = some (some (.ref d))) (D : Deck H d l c) (hc : c < 800000)
    (q : ∀ (v : V) (H2 : Hp) (fs cs : List Int), Fit fs cs → RuleAt K H2 v fs cs → Deck H2 d l (c + 18) → Kept d l H H2 → Q v H2) :
    tIf (tTest (tOp rEq (tCall spDraw [] E0 (tCons (tVar 1) (tCons (tC (V.int 4)) tNil))) (tC (V.int 0)))) (tCall (spWide (K := K)) [] E0 (tCons (tVar 1) tNil)) (tCall (spRule (K := K)) [] E0 (tCons (tVar 1) (tCons (tC (V.int 8)) tNil))) σ H Q := by
  refine ⟨_, e, d, l, c, 4, rfl, D, by omega, by decide, by decide, fun r H2 r0 r1 D2 k2 => ⟨rfl, _, rfl, ite2 (fun _ => ?_) (fun _ => ?_)⟩⟩
  · exact ⟨_, e, d, l, c + 1, rfl, D2, by omega, fun v H3 fs cs ft R D3 k3 => q v H3 fs cs ft R (D3.mono (by omega)) (k2.trans k3)⟩
  · exact ⟨_, e, d, l, c + 1, rfl, D2, by omega, fun v H3 fs cs ft R D3 k3 => q v H3 fs cs ft R (D3.mono (by omega)) (k2.trans k3)⟩
/-- how many terms -/
theorem many_drawn {σ : L2.St} {H : Hp} {Q : VK} (e : σ[1]? = some (some (.ref d))) (D : Deck H d l c) (hc : c < 800000)
    (q : ∀ (n : Nat) (H2 : Hp), n ≤ 300 → Deck H2 d l (c + 2) → Kept d l H H2 → Q (.int n) H2) :
    tIf (tTest (tOp (rI0 fun i j => V.bl (decide (j < i))) (tCall spDraw [] E0 (tCons (tVar 1) (tCons (tC (V.int 10)) tNil))) (tC (V.int 0)))) (tCall spDraw [] E0 (tCons (tVar 1) (tCons (tC (V.int 13)) tNil))) (tC (V.int 300)) σ H Q := by
  refine ⟨_, e, d, l, c, 10, rfl, D, by omega, by decide, by decide, fun r H2 r0 r1 D2 k2 => ⟨_, _, rfl, rfl, _, rfl, ite2 (fun _ => ?_) (fun _ => ?_)⟩⟩
  · refine ⟨_, e, d, l, c + 1, 13, rfl, D2, by omega, by decide, by decide, fun r2 H3 q0 q1 D3 k3 => ?_⟩
    obtain ⟨n, rfl⟩ : ∃ n : Nat, r2 = (n : Int) := ⟨r2.toNat, by omega⟩
    exact q n H3 (by omega) D3 (k2.trans k3)
  · exact q 300 H2 (by decide) (D2.mono (by omega)) k2
theorem ok_twoT {ts : List Int} (h : ∀ x ∈ ts, x.natAbs < 10 ^ 4300) (hl : ts.length ≤ 600) : OkD (.list [.tuple (dI ts), .tuple (dI ts)]) := by
  have b := bulk_ints ts
  have z : OkD (.tuple (dI ts)) := (okA_ints h).tuple (by omega)
  have y : (PyData.tuple (dI ts)).depth ≤ 49 := by
    simp only [PyData.depth, depI]
    omega
  refine (OkA.cons z y (OkA.cons z y .nil)).list ?_
  simp only [PyData.bulkAll, PyData.bulk, b]
  omega
theorem ok_twoI {x : Int} (h : x.natAbs < 10 ^ 4300) : OkD (.list [.int x, .int x]) := by
  have y : (PyData.int x).depth ≤ 49 := by
    simp only [PyData.depth]
    omega
  refine (OkA.cons (.int h) y (OkA.cons (.int h) y .nil)).list ?_
  simp only [PyData.bulkAll, PyData.bulk]
  omega
end

abbrev t0 : TE := tTup tNil
abbrev t1 : TE := tTup (tCons (tC (V.int 1)) tNil)
abbrev e0 : PyData := .tuple []
abbrev e1 : PyData := .tuple [.int 1]
theorem sm20 {D : PyData} (h : (D.canLay0 && decide (D.depth ≤ 20) && tellable D && D.leavesShort 4302 && decide (D.bulk ≤ 200)) = true) : Sm 20 200 D := by
  simp only [Bool.and_eq_true, decide_eq_true_eq] at h
  exact ⟨h.1.1.1.1, h.1.1.1.2, h.1.1.2, h.1.2, h.2⟩
theorem some_lit {d l : Addr} {c : Nat} : LitK K d l c (tCons (tC V.non) (tCons (tC (V.bl true)) (tCons (tC (V.int 0)) (tCons (tC (V.str "")) (tCons t0 (tCons (tTup (tCons t0 tNil)) (tCons (tTup (tCons t0 (tCons t0 tNil)))
    (tCons (tLst (tCons t0 (tCons t0 tNil))) (tCons (tTup (tCons t0 (tCons t0 (tCons t0 tNil)))) (tCons (tTup (tCons t1 (tCons t0 tNil))) (tCons (tTup (tCons (tTup (tCons t1 (tCons t1 tNil))) tNil)) (tCons tDNewK tNil)))))))))))) 12 := by
  have u0 : LitE K d l c t0 e0 := .tup .nil (by decide)
  have u1 : LitE K d l c t1 e1 := .tup (.cons .int .nil) (by decide)
  have v1 : LitE K d l c (tTup (tCons t0 tNil)) (.tuple [e0]) := .tup (.cons u0 .nil) (by decide)
  have v2 : LitE K d l c (tTup (tCons t0 (tCons t0 tNil))) (.tuple [e0, e0]) := .tup (.cons u0 (.cons u0 .nil)) (by decide)
  have v3 : LitE K d l c (tLst (tCons t0 (tCons t0 tNil))) (.list [e0, e0]) := .lst (.cons u0 (.cons u0 .nil)) (by decide)
  have v4 : LitE K d l c (tTup (tCons t0 (tCons t0 (tCons t0 tNil)))) (.tuple [e0, e0, e0]) := .tup (.cons u0 (.cons u0 (.cons u0 .nil))) (by decide)
  have v5 : LitE K d l c (tTup (tCons t1 (tCons t0 tNil))) (.tuple [e1, e0]) := .tup (.cons u1 (.cons u0 .nil)) (by decide)
  have v6 : LitE K d l c (tTup (tCons t1 (tCons t1 tNil))) (.tuple [e1, e1]) := .tup (.cons u1 (.cons u1 .nil)) (by decide)
  have v7 : LitE K d l c (tTup (tCons (tTup (tCons t1 (tCons t1 tNil))) tNil)) (.tuple [.tuple [e1, e1]]) := .tup (.cons v6 .nil) (by decide)
  refine LitK.cons LitE.non (sm20 (by decide +kernel)) trivial ?_
  refine LitK.cons LitE.bl (sm20 (by decide +kernel)) trivial ?_
  refine LitK.cons LitE.int (sm20 (by decide +kernel)) trivial ?_
  refine LitK.cons LitE.str (sm20 (by decide +kernel)) trivial ?_
  refine LitK.cons u0 (sm20 (by decide +kernel)) ⟨by decide, nofun⟩ ?_
  refine LitK.cons v1 (sm20 (by decide +kernel)) ⟨by decide, by simp [Short]⟩ ?_
  refine LitK.cons v2 (sm20 (by decide +kernel)) ⟨by decide, by simp [Short]⟩ ?_
  refine LitK.cons v3 (sm20 (by decide +kernel)) trivial ?_
  refine LitK.cons v4 (sm20 (by decide +kernel)) ⟨by decide, by simp [Short]⟩ ?_
  refine LitK.cons v5 (sm20 (by decide +kernel)) ⟨by decide, by simp [Short]⟩ ?_
  refine LitK.cons v7 (sm20 (by decide +kernel)) ⟨by decide, by simp [Short]⟩ ?_
  exact LitK.dict LitK.nil
theorem gName_ap {i : Nat} {v : V} {σ : L2.St} {H : Hp} {Q : L2.St → Hp → Prop} : gName i v σ H Q = Q (σ.set i (some v)) H := rfl
theorem asg_lit {d l : Addr} {c n i : Nat} {t : TA} {ts : TS} {D : Ends} {σ : L2.St} {H : Hp} (lit : LitK K d l c t n) (Dk : Deck H d l c)
    (q : ∀ p xs H2, Same H H2 → Deck H2 d l c → (∀ x ∈ xs, Keep K d l H2 x) → xs.length = n → H2 p = none → ts D (σ.set i (some (.ref p))) (upd H2 p (.lst xs))) (hn : n ≤ 1000 := by decide) : tSeq (tAsg (tLst t) (gName i)) ts D σ H :=
  lit σ H _ Dk fun xs H2 s2 D2 kx xl => ⟨Nat.le_of_lt (small1000 (by omega)), fun p np => q p xs H2 s2 D2 kx xl np⟩
def spLaw (K : PySem.W.Frag) : Sp := fun vs H Q _ => ∃ (a : Addr) (ns : List Int), vs = [.ref a] ∧ SqL K H a (ns.map V.int) ∧ ns.length ≤ 63 ∧ ∀ H2, Q (.bl true) H2
theorem ok_law {f a1 a2 a3 a4 a5 a6 a7 a8 a9 a10 a11 a12 a13 a14 : Addr} {fd d1 d2 d3 d4 d5 d6 d7 d8 d9 d10 d11 d12 d13 d14 : FuncData} (hdg : base.NoDigits) (F : Fun K "law" "law" s_law f fd)
    (F_is_pair_of_tuples : Fun K "is_pair_of_tuples" "is_pair_of_tuples" s_is_pair_of_tuples a1 d1) (m_is_pair_of_tuples : mg "is_pair_of_tuples" = some (.ref a1)) (b_is_pair_of_tuples : Binds K d1 ["thing"] [])
    (F_is_tuple_of : Fun K "is_tuple_of" "is_tuple_of" s_is_tuple_of a2 d2) (m_is_tuple_of : mg "is_tuple_of" = some (.ref a2)) (b_is_tuple_of : Binds K d2 ["thing", "many"] [])
    (F_is_integer : Fun K "is_integer" "is_integer" s_is_integer a3 d3) (m_is_integer : mg "is_integer" = some (.ref a3)) (b_is_integer : Binds K d3 ["thing"] [])
    (F_is_rule : Fun K "is_rule" "is_rule" s_is_rule a4 d4) (m_is_rule : mg "is_rule" = some (.ref a4)) (b_is_rule : Binds K d4 ["thing"] []) (kb_is_rule_thing : KBinds K d4 ["thing"] ["thing"] kwOne kwOne)
    (F__law_is_right : Fun K "_law_is_right" "_law_is_right" s__law_is_right a5 d5) (m__law_is_right : mg "_law_is_right" = some (.ref a5)) (b__law_is_right : Binds K d5 ["_law_it"] [])
    (F__law_draw : Fun K "_law_draw" "_law_draw" s__law_draw a6 d6) (m__law_draw : mg "_law_draw" = some (.ref a6)) (b__law_draw : Binds K d6 ["_law_deck_here", "_law_bound"] [])
    (F__law_pick : Fun K "_law_pick" "_law_pick" s__law_pick a7 d7) (m__law_pick : mg "_law_pick" = some (.ref a7)) (b__law_pick : Binds K d7 ["_law_deck_here", "_law_some"] [])
    (F__law_deck : Fun K "_law_deck" "_law_deck" s__law_deck a8 d8) (m__law_deck : mg "_law_deck" = some (.ref a8)) (b__law_deck : Binds K d8 ["_law_script"] [])
    (F__law_wide : Fun K "_law_wide" "_law_wide" s__law_wide a9 d9) (m__law_wide : mg "_law_wide" = some (.ref a9)) (b__law_wide : Binds K d9 ["_law_deck_here"] [])
    (F__law_rule : Fun K "_law_rule" "_law_rule" s__law_rule a10 d10) (m__law_rule : mg "_law_rule" = some (.ref a10)) (b__law_rule : Binds K d10 ["_law_deck_here", "_law_top"] [])
    (F__law_terms : Fun K "_law_terms" "_law_terms" s__law_terms a11 d11) (m__law_terms : mg "_law_terms" = some (.ref a11)) (b__law_terms : Binds K d11 ["_law_rule_here", "_law_many"] [])
    (F_terms : Fun K "terms" "terms" s_terms a12 d12) (m_terms : mg "terms" = some (.ref a12)) (b_terms : Binds K d12 ["rule", "many"] []) (kb_terms_many_rule : KBinds K d12 ["rule", "many"] ["many", "rule"] kwTurn kwTurn)
    (F_term : Fun K "term" "term" s_term a13 d13) (m_term : mg "term" = some (.ref a13)) (b_term : Binds K d13 ["rule", "index"] []) (kb_term_index_rule : KBinds K d13 ["rule", "index"] ["index", "rule"] kwTurn kwTurn)
    (F__law_bent : Fun K "_law_bent" "_law_bent" s__law_bent a14 d14) (m__law_bent : mg "_law_bent" = some (.ref a14)) (b__law_bent : Binds K d14 ["_law_deck_here", "_law_it"] [])
    {a15 : Addr} {d15 : FuncData} (F__law_is_so : Fun K "_law_is_so" "_law_is_so" s__law_is_so a15 d15) (m__law_is_so : mg "_law_is_so" = some (.ref a15)) (b__law_is_so : Binds K d15 ["_law_it"] []) (T : Txt mg) :
    GFn P w K mg base CX0 5 f fd ["_law_script"] (spLaw K) := by
  have G__law_deck : GFn P w K mg base CX0 1 a8 d8 ["_law_script"] (spDeck K) := ok_deck F__law_deck T
  have G__law_draw : GFn P w K mg base CX0 1 a6 d6 ["_law_deck_here", "_law_bound"] spDraw := ok_draw F__law_draw T
  have G__law_wide : GFn P w K mg base CX0 3 a9 d9 ["_law_deck_here"] (spWide (K := K)) := ok_wide F__law_wide F__law_draw m__law_draw b__law_draw F__law_pick m__law_pick b__law_pick T
  have G__law_rule : GFn P w K mg base CX0 3 a10 d10 ["_law_deck_here", "_law_top"] (spRule (K := K)) := ok_rule F__law_rule F__law_draw m__law_draw b__law_draw F__law_pick m__law_pick b__law_pick T
  have G__law_terms : GFn P w K mg base CX0 1 a11 d11 ["_law_rule_here", "_law_many"] (spTermsL K) := ok_termsL F__law_terms T
  have G_terms : GFn P w K mg base CX0 1 a12 d12 ["rule", "many"] (spTerms K) := ok_terms F_terms T
  have G_term : GFn P w K mg base CX0 2 a13 d13 ["rule", "index"] (spTerm K) := ok_term F_term F_terms m_terms b_terms T
  have G__law_bent : GFn P w K mg base CX0 3 a14 d14 ["_law_deck_here", "_law_it"] (spBent K) := ok_bent F__law_bent F__law_draw m__law_draw b__law_draw F__law_pick m__law_pick b__law_pick T
  have G__law_is_so : GFn P w K mg base CX0 4 a15 d15 ["_law_it"] (spSo K) := ok_so hdg F__law_is_so F_is_pair_of_tuples m_is_pair_of_tuples b_is_pair_of_tuples F_is_tuple_of m_is_tuple_of b_is_tuple_of F_is_integer m_is_integer b_is_integer F_is_rule m_is_rule b_is_rule kb_is_rule_thing F__law_is_right m__law_is_right b__law_is_right T
  refine gfun_ok F sc_law (fun vs H Q E h => ?_) (fun cdv A outer s H vs Q E hgu hr h => ?_)
  · obtain ⟨a, ns, rfl, _⟩ := h
    rfl
  · obtain ⟨a, ns, rfl, hS, hlen, q⟩ := h
    have nd := sc_law.nd
    refine ⟨_, (pss_cons (ps_set (i := 1) nd rfl (Or.inl rfl) (pe_g G__law_deck hgu (hr.mono (by decide)) (by rfl) m__law_deck F__law_deck.kp b__law_deck .nil pass0 (pa_cons (pv 0) pa_nil)))
      (pss_cons (ps_set (i := 2) nd rfl (Or.inl rfl) (pe_lst (pa_cons pe_non (pa_cons pe_bl (pa_cons pe_int (pa_cons pe_str (pa_cons (pe_tup pa_nil) (pa_cons (pe_tup (pa_cons (pe_tup pa_nil) pa_nil)) (pa_cons (pe_tup (pa_cons (pe_tup pa_nil) (pa_cons (pe_tup pa_nil) pa_nil))) (pa_cons (pe_lst (pa_cons (pe_tup pa_nil) (pa_cons (pe_tup pa_nil) pa_nil))) (pa_cons (pe_tup (pa_cons (pe_tup pa_nil) (pa_cons (pe_tup pa_nil) (pa_cons (pe_tup pa_nil) pa_nil)))) (pa_cons (pe_tup (pa_cons (pe_tup (pa_cons pe_int pa_nil)) (pa_cons (pe_tup pa_nil) pa_nil))) (pa_cons (pe_tup (pa_cons (pe_tup (pa_cons (pe_tup (pa_cons pe_int pa_nil)) (pa_cons (pe_tup (pa_cons pe_int pa_nil)) pa_nil))) pa_nil)) (pa_cons pe_dnewK pa_nil))))))))))))))
      (pss_cons (ps_for PassesOwn.never rfl (pi_range1 rfl T.range (pa_cons pe_int pa_nil)) (pg_name (i := 3) nd rfl (Or.inl rfl))
        (pss_cons (ps_set (i := 4) nd rfl (Or.inl rfl) (pe_ifExp (pt_cmpR op_eq (pe_g G__law_draw hgu (hr.mono (by decide)) (by rfl) m__law_draw F__law_draw.kp b__law_draw .nil pass0 (pa_cons (pv 1) (pa_cons pe_int pa_nil))) pe_int (nomark _)) (pe_g G__law_wide hgu (hr.mono (by decide)) (by rfl) m__law_wide F__law_wide.kp b__law_wide .nil pass0 (pa_cons (pv 1) pa_nil)) (pe_g G__law_rule hgu (hr.mono (by decide)) (by rfl) m__law_rule F__law_rule.kp b__law_rule .nil pass0 (pa_cons (pv 1) (pa_cons pe_int pa_nil)))))
      (pss_cons (ps_set (i := 5) nd rfl (Or.inl rfl) (pe_ifExp (pt_cmpR op_gt (pe_g G__law_draw hgu (hr.mono (by decide)) (by rfl) m__law_draw F__law_draw.kp b__law_draw .nil pass0 (pa_cons (pv 1) (pa_cons pe_int pa_nil))) pe_int (nomark _)) (pe_g G__law_draw hgu (hr.mono (by decide)) (by rfl) m__law_draw F__law_draw.kp b__law_draw .nil pass0 (pa_cons (pv 1) (pa_cons pe_int pa_nil))) pe_int))
      (pss_cons (ps_set (i := 6) nd rfl (Or.inl rfl) (pe_g G__law_terms hgu (hr.mono (by decide)) (by rfl) m__law_terms F__law_terms.kp b__law_terms .nil pass0 (pa_cons (pv 4) (pa_cons (pe_callB (call_max2 rfl) (by rfl) T.max (by decide +kernel) (pa_cons (pv 5) (pa_cons pe_int pa_nil))) pa_nil))))
      (pss_cons (ps_if (pt_cmpR op_ne (pe_callB (k_repr (K := K) hdg hgu hr) (by rfl) T.repr (by decide +kernel) (pa_cons (pe_lst (pa_cons (pe_g G_terms hgu (hr.mono (by decide)) (by rfl) m_terms F_terms.kp b_terms .nil pass0 (pa_cons (pv 4) (pa_cons (pv 5) pa_nil))) (pa_cons (pe_gK0 G_terms hgu (hr.mono (by decide)) (by rfl) m_terms F_terms.kp kb_terms_many_rule pass0 (pk_cons (pv 5) (pk_cons (pv 4) pk_nil))) pa_nil))) pa_nil)) (pe_callB (k_repr (K := K) hdg hgu hr) (by rfl) T.repr (by decide +kernel) (pa_cons (pe_op op_rep (pe_lst (pa_cons (pe_callTy (k_tupOf (K := K)) (by rfl) T.tuple (by decide +kernel) (pa_cons (pe_slice (k_slL (K := K)) (pv 6) po_none (po_some (pv 5))) pa_nil)) pa_nil)) pe_int) pa_nil)) (nomark _)) (pss_one (ps_ret pe_bl)) pss_nil)
      (pss_cons (ps_set (i := 7) nd rfl (Or.inl rfl) (pe_g G__law_draw hgu (hr.mono (by decide)) (by rfl) m__law_draw F__law_draw.kp b__law_draw .nil pass0 (pa_cons (pv 1) (pa_cons (pe_callB (k_len (K := K)) (by rfl) T.len (by decide +kernel) (pa_cons (pv 6) pa_nil)) pa_nil))))
      (pss_cons (ps_if (pt_cmpR op_ne (pe_callB (k_repr (K := K) hdg hgu hr) (by rfl) T.repr (by decide +kernel) (pa_cons (pe_lst (pa_cons (pe_g G_term hgu (hr.mono (by decide)) (by rfl) m_term F_term.kp b_term .nil pass0 (pa_cons (pv 4) (pa_cons (pv 7) pa_nil))) (pa_cons (pe_gK0 G_term hgu (hr.mono (by decide)) (by rfl) m_term F_term.kp kb_term_index_rule pass0 (pk_cons (pv 7) (pk_cons (pv 4) pk_nil))) pa_nil))) pa_nil)) (pe_callB (k_repr (K := K) hdg hgu hr) (by rfl) T.repr (by decide +kernel) (pa_cons (pe_op op_rep (pe_lst (pa_cons (pe_ix (k_ixL (K := K)) (pv 6) (pv 7) (fun _ _ => rfl)) pa_nil)) pe_int) pa_nil)) (nomark _)) (pss_one (ps_ret pe_bl)) pss_nil)
      (pss_one (ps_set (i := 2) nd rfl (Or.inl rfl) (pe_op op_cat (pv 2) (pe_lst (pa_cons (pv 4) (pa_cons (pe_g G__law_bent hgu (hr.mono (by decide)) (by rfl) m__law_bent F__law_bent.kp b__law_bent .nil pass0 (pa_cons (pv 1) (pa_cons (pv 4) pa_nil))) (pa_cons (pe_g G__law_bent hgu (hr.mono (by decide)) (by rfl) m__law_bent F__law_bent.kp b__law_bent .nil pass0 (pa_cons (pv 1) (pa_cons (pv 4) pa_nil))) pa_nil))))))))))))))
      (pss_one (ps_ret (pe_cmpR (k_eqD (K := K) hr.units) (pe_lc (own := [("_law_it", 8)]) rfl nd (pi_list (pv 2)) (blkOk_by (N := N_law) (sc := defScope s_law) (by decide +kernel)) (fun _ _ _ _ _ => (pg_name (i := 8) nd rfl (Or.inl rfl))) (fun _ _ _ _ _ => (pts_one (pt_not (pt_val (pe_g G__law_is_so hgu (hr.mono (by decide)) (by rfl) m__law_is_so F__law_is_so.kp b__law_is_so .nil pass0 (pa_cons (pv 8) pa_nil)))))) (fun _ _ _ _ _ => (pv 8))) (pe_lst pa_nil) (nomark _))))))), ?_⟩
    refine ⟨.ref a, rfl, a, ns, rfl, hS, hlen, fun d l H1 D1 s1 => ?_⟩
    show gName 1 _ _ _ _
    rw [gName_ap]
    dsimp only
    refine asg_lit (some_lit (K := K)) D1 fun p xs H2 s2 D2 kx xl np => ?_
    have D3 := D2.upd (o := .lst xs) np
    obtain ⟨pd, pl⟩ := D2.ne np
    have kx3 : ∀ x ∈ xs, Keep K d l (upd H2 p (.lst xs)) x := fun x hx => (kx x hx).mono (.of (same_new np))
    have hp3 : (upd H2 p (.lst xs)) p = some (.lst xs) := upd_same
    generalize upd H2 p (.lst xs) = H3 at D3 kx3 hp3 ⊢
    refine ⟨4, rfl, by decide, by decide, for_range (lo := 0) (n := 4) (fun i σ HI => ∃ (y : Addr) (zs : List V) (y3 y4 y5 y6 y7 : Option V), σ = [some (.ref a), some (.ref d), some (.ref y), y3, y4, y5, y6, y7, none] ∧ Deck HI d l (i * 100) ∧
      HI y = some (.lst zs) ∧ y ≠ d ∧ y ≠ l ∧ zs.length ≤ 12 + 3 * i ∧ ∀ x ∈ zs, Keep K d l HI x) ⟨p, xs, none, none, none, none, none, rfl, D3, hp3, pd, pl, by omega, kx3⟩ ?_ ?_⟩
    · rintro i σ HI hi ⟨y, zs, y3, y4, y5, y6, y7, rfl, D4, hy, yd, yl, zl, kz⟩
      refine rule_drawn rfl D4 (by omega) fun v H5 fs cs ft R5 D5 k5 => ?_
      refine many_drawn rfl D5 (by omega) fun n H6 hn D6 k6 => ?_
      have R6 := R5.kept D5 k6
      have em : (if (13 : Int) > (n : Int) then (13 : Int) else (n : Int)) = ((max n 13 : Nat) : Int) := by
        rw [Nat.max_def]
        split <;> split <;> omega
      have hM : n ≤ max n 13 ∧ 13 ≤ max n 13 ∧ max n 13 ≤ 300 := by omega
      generalize max n 13 = M at em hM
      -- the law's own row
      refine ⟨_, rfl, _, rfl, _, _, rfl, v, fs, cs, M, (show [v, V.int (if (13 : Int) > (n : Int) then (13 : Int) else (n : Int))] ++ [] = [v, V.int M] by rw [em]; rfl), R6, ft, hM.2.2, fun p7 H7 s7 n7 h7 => ?_⟩
      have ne7 := D6.ne n7
      have D7 := D6.same s7
      have R7 := R6.same s7
      have k7 : Kept d l HI H7 := (k5.trans k6).trans (.of s7)
      -- the terms, asked by place and by name
      refine ⟨_, rfl, _, rfl, v, fs, cs, n, rfl, R7, ft, by omega, fun q1 H8 s8 hq1 => ⟨_, rfl, _, rfl, v, fs, cs, n, rfl, R7.same s8, ft, by omega, fun q2 H9 s9 hq2 => ⟨by show 2 ≤ sizeLine; decide, fun g1 ng1 => ?_⟩⟩⟩
      have cf := ft.2.2.2
      have c8 : cs.length ≤ 8 := by have := ft.1; have := ft.2.1; omega
      have hts : ∀ x ∈ rowOf fs cs n, x.natAbs < 10 ^ 4300 := rowOf_le ft.2.2.1 ft.2.2.2 c8 (by omega)
      have okT := ok_twoT hts (by rw [rowOf_len]; omega)
      refine ⟨_, rfl, .inl ⟨.list [.tuple (dI (rowOf fs cs n)), .tuple (dI (rowOf fs cs n))], .lst (SqL.of upd_same) (.cons (.tup (sameT (s9.trans (same_new ng1)) hq1) (dpInts _)) (.cons (.tup (sameT (same_new ng1) hq2) (dpInts _)) .nil)), okT.tell, Nat.le_trans okT.dep (by decide), okT.shown, ?_⟩⟩
      have s10 := (s8.trans s9).trans (same_new (o := .lst [.ref q1, .ref q2]) ng1)
      have h10 := s10 _ _ h7
      generalize upd H9 g1 (.lst [.ref q1, .ref q2]) = H10 at s10 h10 ⊢
      refine ⟨_, rfl, _, rfl, _, rfl, p7, _, rfl, SqL.of h10, fun w1 nw1 => ⟨w1, _, rfl, .inl ⟨SqL.of upd_same, fun w2 nw2 => ⟨by show 1 ≤ sizeLine; decide, fun w3 nw3 => ⟨w3, 2, [.ref w2], rfl, rfl, upd_same, by decide, by decide, (by show 1 * 2 ≤ sizeLine; decide), fun w4 nw4 => ?_⟩⟩⟩⟩⟩
      have s11 := ((((same_new nw1).trans (same_new nw2)).trans (same_new nw3)).trans (same_new (o := .lst [.ref w2, .ref w2]) nw4))
      have hw2 := ((same_new nw3).trans (same_new (o := .lst [.ref w2, .ref w2]) nw4)) _ _ upd_same
      rw [cut_to, ← List.map_take, rowOf_take fs cs hM.1] at hw2 s11
      have hw4 : (upd (upd (upd (upd H10 w1 (.lst ((rowOf fs cs n).map V.int))) w2 (.tup ((rowOf fs cs n).map V.int))) w3 (.lst [.ref w2])) w4 (.lst [.ref w2, .ref w2])) w4 = some (.lst [.ref w2, .ref w2]) := upd_same
      rw [cut_to, ← List.map_take, rowOf_take fs cs hM.1, show (List.replicate (Int.toNat 2) [V.ref w2]).flatten = [.ref w2, .ref w2] from rfl]
      have h11 := s11 _ _ h10
      generalize upd (upd (upd (upd H10 w1 (.lst ((rowOf fs cs n).map V.int))) w2 (.tup ((rowOf fs cs n).map V.int))) w3 (.lst [.ref w2])) w4 (.lst [.ref w2, .ref w2]) = H11 at s11 hw2 hw4 h11 ⊢
      refine ⟨_, rfl, .inl ⟨.list [.tuple (dI (rowOf fs cs n)), .tuple (dI (rowOf fs cs n))], .lst (SqL.of hw4) (.cons (.tup (.inl (.inl hw2)) (dpInts _)) (.cons (.tup (.inl (.inl hw2)) (dpInts _)) .nil)), okT.tell, Nat.le_trans okT.dep (by decide), okT.shown, ?_⟩⟩
      refine ⟨rfl, _, rfl, ifF (by simp) ?_⟩
      have s12 := s10.trans s11
      have D11 := D7.same s12
      have R11 := R7.same s12
      have k11 : Kept d l HI H11 := k7.trans (.of s12)
      -- a place of the row
      refine ⟨_, rfl, _, rfl, p7, _, rfl, .inl (SqL.of h11), d, l, _, _, rfl, D11, by omega, ?_, ?_, fun r H12 r0 r1 D12 k12 => ?_⟩
      · rw [List.length_map, rowOf_len]
        omega
      · rw [List.length_map, rowOf_len]
        omega
      obtain ⟨j, rfl⟩ : ∃ j : Nat, r = (j : Int) := ⟨r.toNat, by omega⟩
      have hj : j < M := by
        rw [List.length_map, rowOf_len] at r1
        omega
      have R12 := R11.kept D11 k12
      have h12 := k12 _ _ h11 ne7.1 ne7.2
      have k12' : Kept d l HI H12 := k11.trans k12
      refine ⟨_, rfl, _, rfl, v, fs, cs, j, rfl, R12, ft, by omega, fun H13 x1 s13 e1 => ⟨_, rfl, _, rfl, v, fs, cs, j, rfl, R12.same s13, ft, by omega, fun H14 x2 s14 e2 => ⟨by show 2 ≤ sizeLine; decide, fun g2 ng2 => ?_⟩⟩⟩
      obtain rfl : x1 = x2 := Option.some.inj (e1.symm.trans e2)
      have ex : (rowOf fs cs M)[j]? = some x1 := by
        have z := rowOf_take fs cs (n := j + 1) (m := M) (by omega)
        rw [← z, List.getElem?_take_of_lt (by omega)] at e1
        exact e1
      have hx1 : x1.natAbs < 10 ^ 4300 := rowOf_le ft.2.2.1 ft.2.2.2 c8 (by omega) x1 (List.mem_of_getElem? ex)
      have okI := ok_twoI hx1
      refine ⟨_, rfl, .inl ⟨.list [.int x1, .int x1], .lst (SqL.of upd_same) (.cons (.int _) (.cons (.int _) .nil)), okI.tell, Nat.le_trans okI.dep (by decide), okI.shown, ?_⟩⟩
      have s15 := (s13.trans s14).trans (same_new (o := .lst [.int x1, .int x1]) ng2)
      have h15 := s15 _ _ h12
      generalize upd H14 g2 (.lst [.int x1, .int x1]) = H15 at s15 h15 ⊢
      refine ⟨_, rfl, _, rfl, p7, _, j, _, rfl, rfl, SqL.of h15, atI_nat (by rw [List.getElem?_map, ex]; rfl), by show 1 ≤ sizeLine; decide, fun w5 nw5 => ⟨w5, 2, [.int x1], rfl, rfl, upd_same, by decide, by decide, (by show 1 * 2 ≤ sizeLine; decide), fun w6 nw6 => ?_⟩⟩
      have s16 := s15.trans ((same_new (o := .lst [.int x1]) nw5).trans (same_new (o := .lst [.int x1, .int x1]) nw6))
      have hw6 : (upd (upd H15 w5 (.lst [.int x1])) w6 (.lst [.int x1, .int x1])) w6 = some (.lst [.int x1, .int x1]) := upd_same
      rw [show (List.replicate (Int.toNat 2) [V.int x1]).flatten = [.int x1, .int x1] from rfl]
      generalize upd (upd H15 w5 (.lst [.int x1])) w6 (.lst [.int x1, .int x1]) = H16 at s16 hw6 ⊢
      refine ⟨_, rfl, .inl ⟨.list [.int x1, .int x1], .lst (SqL.of hw6) (.cons (.int _) (.cons (.int _) .nil)), okI.tell, Nat.le_trans okI.dep (by decide), okI.shown, ?_⟩⟩
      refine ⟨rfl, _, rfl, ifF (by simp) ?_⟩
      have D16 := D12.same s16
      have R16 := R12.same s16
      have k16 : Kept d l HI H16 := k12'.trans (.of s16)
      -- three more things
      refine ⟨_, rfl, _, rfl, _, rfl, _, rfl, d, l, _, v, fs, cs, rfl, D16, by omega, R16, ft, fun b1 H17 kb1 D17 k17 => ⟨_, rfl, _, rfl, d, l, _, v, fs, cs, rfl, D17, by omega, R16.kept D16 k17, ft, fun b2 H18 kb2 D18 k18 => ⟨by show 3 ≤ sizeLine; decide, fun g3 ng3 => ?_⟩⟩⟩
      have k19 : Kept d l HI (upd H18 g3 (.lst [v, b1, b2])) := ((k16.trans k17).trans k18).trans (.of (same_new ng3))
      have hy19 := k19 _ _ hy yd yl
      refine ⟨y, g3, zs, _, rfl, rfl, hy19, upd_same, ?_, fun y9 ny9 => ?_⟩
      · refine Nat.le_of_lt (small1000 ?_)
        show zs.length + 3 ≤ 1000
        omega
      have D19 := D18.same (same_new (o := .lst [v, b1, b2]) ng3)
      have s20 := (same_new (o := .lst [v, b1, b2]) ng3).trans (same_new (o := .lst (zs ++ [v, b1, b2])) ny9)
      refine ⟨y9, zs ++ [v, b1, b2], _, _, _, _, _, rfl, (D18.same s20).mono (by omega), upd_same, (D19.ne ny9).1, (D19.ne ny9).2, ?_, fun x hx => ?_⟩
      · rw [List.length_append]
        show zs.length + 3 ≤ _
        omega
      · rcases List.mem_append.mp hx with hx | hx
        · exact (kz x hx).mono (k19.trans (.of (same_new ny9)))
        · simp only [List.mem_cons, List.not_mem_nil, or_false] at hx
          rcases hx with rfl | rfl | rfl
          · exact ((R16.keep D16 ft).mono (k17.trans k18)).mono (.of s20)
          · exact (kb1.mono k18).mono (.of s20)
          · exact kb2.mono (.of s20)
    · rintro σ HF ⟨y, zs, y3, y4, y5, y6, y7, rfl, D4, hy, yd, yl, zl, kz⟩
      refine ⟨_, rfl, y, rfl, ⟨_, SqL.of hy⟩, fun p1 np1 => lc_list (xs := zs) (fun i H2 => Same HF H2 ∧ H2 p1 = some (.lst [])) ⟨same_new np1, upd_same⟩ (fun i H2 _ h => h.1.seq (SqL.of hy)) ?_ ?_⟩
      · rintro i x H2 hx ⟨sF, h2⟩
        obtain ⟨D, hD⟩ := kz x (List.mem_of_getElem? hx)
        refine ⟨wipe1 _ _ _, ?_⟩
        refine ⟨_, rfl, x, D, rfl, hD H2 (.of sF), fun H4 s4 => ⟨_, rfl, iteF ⟨sF.trans s4, s4 _ _ h2⟩⟩⟩
      · rintro H2 ⟨sF, h2⟩
        refine ⟨Nat.zero_le _, fun p2 np2 => ⟨.list [], .list [], .lst (SqL.of (same_new np2 _ _ h2)) .nil, .lst (SqL.of upd_same) .nil, rfl, rfl, ?_⟩⟩
        rw [eqv_nil]
        exact q _
end
end SG

namespace SG
open PySem PySem.Spec PyProof.Rows L2
theorem kwOne_args {α β : Type} {us ws : List α} (h : (kwOne us ws).length = 1) : ∃ x, us = [] ∧ ws = [x] := by
  match us, ws, h with
  | [], [x], _ => exact ⟨x, rfl, rfl⟩
  | [], [], h => exact absurd h (by simp [kwOne])
  | [], _ :: _ :: _, h => exact absurd h (by simp [kwOne])
  | _ :: _, _, h => exact absurd h (by simp [kwOne])
theorem kwTurn_args {α β : Type} {us ws : List α} (h : (kwTurn us ws).length = 2) : ∃ x y, us = [] ∧ ws = [x, y] := by
  match us, ws, h with
  | [], [x, y], _ => exact ⟨x, y, rfl, rfl⟩
  | [], [], h => exact absurd h (by simp [kwTurn])
  | [], [_], h => exact absurd h (by simp [kwTurn])
  | [], _ :: _ :: _ :: _, h => exact absurd h (by simp [kwTurn])
  | _ :: _, _, h => exact absurd h (by simp [kwTurn])
theorem all_mk {l : PySem.W.OpenLaw} {w : World} {K : PySem.W.Frag} {h : Heap} {mg : Str → Option Value} {fa f1 f2 f3 f4 f5 f6 f7 f8 f9 f10 f11 f12 f13 f14 f15 f16 : Addr} (X : K.In h) (G : h.Ns mainGlobals mg) (hfa : mg "law" = some (.ref fa))
    {od1 an1 od2 an2 od3 an3 od4 an4 od5 an5 od6 an6 od7 an7 od8 an8 od9 an9 od10 an10 od11 an11 od12 an12 od13 an13 od14 an14 od15 an15 od16 an16 : Option Addr} {sl1 sl2 sl3 sl4 sl5 sl6 sl7 sl8 sl9 sl10 sl11 sl12 sl13 sl14 sl15 sl16 : Array (Option Value)} {oc1 kV1 dc1 pm1 cd1 ct1 oc2 kV2 dc2 pm2 cd2 ct2 oc3 kV3 dc3 pm3 cd3 ct3 oc4 kV4 dc4 pm4 cd4 ct4 oc5 kV5 dc5 pm5 cd5 ct5 oc6 kV6 dc6 pm6 cd6 ct6 oc7 kV7 dc7 pm7 cd7 ct7 oc8 kV8 dc8 pm8 cd8 ct8 oc9 kV9 dc9 pm9 cd9 ct9 oc10 kV10 dc10 pm10 cd10 ct10 oc11 kV11 dc11 pm11 cd11 ct11 oc12 kV12 dc12 pm12 cd12 ct12 oc13 kV13 dc13 pm13 cd13 ct13 oc14 kV14 dc14 pm14 cd14 ct14 oc15 kV15 dc15 pm15 cd15 ct15 oc16 kV16 dc16 pm16 cd16 ct16 : Value}
    (a1 : PySem.W.nsIn K mainGlobals "is_pair_of_tuples" = some (some (.ref f1))) (l1 : K.lookup f1 = some ⟨oc1, od1, .func (PySem.W.fnOf "is_pair_of_tuples" "is_pair_of_tuples" (defArgs s_is_pair_of_tuples) (defBody s_is_pair_of_tuples) (defScope s_is_pair_of_tuples) .none kV1 dc1 pm1 an1 cd1 ct1), sl1⟩) (c1 : PySem.W.codeIn K cd1 "is_pair_of_tuples" = true) (k1 : PySem.W.keepIn K (.ref f1) = true)
    (a2 : PySem.W.nsIn K mainGlobals "is_tuple_of" = some (some (.ref f2))) (l2 : K.lookup f2 = some ⟨oc2, od2, .func (PySem.W.fnOf "is_tuple_of" "is_tuple_of" (defArgs s_is_tuple_of) (defBody s_is_tuple_of) (defScope s_is_tuple_of) .none kV2 dc2 pm2 an2 cd2 ct2), sl2⟩) (c2 : PySem.W.codeIn K cd2 "is_tuple_of" = true) (k2 : PySem.W.keepIn K (.ref f2) = true)
    (a3 : PySem.W.nsIn K mainGlobals "is_integer" = some (some (.ref f3))) (l3 : K.lookup f3 = some ⟨oc3, od3, .func (PySem.W.fnOf "is_integer" "is_integer" (defArgs s_is_integer) (defBody s_is_integer) (defScope s_is_integer) .none kV3 dc3 pm3 an3 cd3 ct3), sl3⟩) (c3 : PySem.W.codeIn K cd3 "is_integer" = true) (k3 : PySem.W.keepIn K (.ref f3) = true)
    (a4 : PySem.W.nsIn K mainGlobals "is_rule" = some (some (.ref f4))) (l4 : K.lookup f4 = some ⟨oc4, od4, .func (PySem.W.fnOf "is_rule" "is_rule" (defArgs s_is_rule) (defBody s_is_rule) (defScope s_is_rule) .none kV4 dc4 pm4 an4 cd4 ct4), sl4⟩) (c4 : PySem.W.codeIn K cd4 "is_rule" = true) (k4 : PySem.W.keepIn K (.ref f4) = true)
    (a5 : PySem.W.nsIn K mainGlobals "_law_is_right" = some (some (.ref f5))) (l5 : K.lookup f5 = some ⟨oc5, od5, .func (PySem.W.fnOf "_law_is_right" "_law_is_right" (defArgs s__law_is_right) (defBody s__law_is_right) (defScope s__law_is_right) .none kV5 dc5 pm5 an5 cd5 ct5), sl5⟩) (c5 : PySem.W.codeIn K cd5 "_law_is_right" = true) (k5 : PySem.W.keepIn K (.ref f5) = true)
    (a6 : PySem.W.nsIn K mainGlobals "_law_draw" = some (some (.ref f6))) (l6 : K.lookup f6 = some ⟨oc6, od6, .func (PySem.W.fnOf "_law_draw" "_law_draw" (defArgs s__law_draw) (defBody s__law_draw) (defScope s__law_draw) .none kV6 dc6 pm6 an6 cd6 ct6), sl6⟩) (c6 : PySem.W.codeIn K cd6 "_law_draw" = true) (k6 : PySem.W.keepIn K (.ref f6) = true)
    (a7 : PySem.W.nsIn K mainGlobals "_law_pick" = some (some (.ref f7))) (l7 : K.lookup f7 = some ⟨oc7, od7, .func (PySem.W.fnOf "_law_pick" "_law_pick" (defArgs s__law_pick) (defBody s__law_pick) (defScope s__law_pick) .none kV7 dc7 pm7 an7 cd7 ct7), sl7⟩) (c7 : PySem.W.codeIn K cd7 "_law_pick" = true) (k7 : PySem.W.keepIn K (.ref f7) = true)
    (a8 : PySem.W.nsIn K mainGlobals "_law_deck" = some (some (.ref f8))) (l8 : K.lookup f8 = some ⟨oc8, od8, .func (PySem.W.fnOf "_law_deck" "_law_deck" (defArgs s__law_deck) (defBody s__law_deck) (defScope s__law_deck) .none kV8 dc8 pm8 an8 cd8 ct8), sl8⟩) (c8 : PySem.W.codeIn K cd8 "_law_deck" = true) (k8 : PySem.W.keepIn K (.ref f8) = true)
    (a9 : PySem.W.nsIn K mainGlobals "_law_wide" = some (some (.ref f9))) (l9 : K.lookup f9 = some ⟨oc9, od9, .func (PySem.W.fnOf "_law_wide" "_law_wide" (defArgs s__law_wide) (defBody s__law_wide) (defScope s__law_wide) .none kV9 dc9 pm9 an9 cd9 ct9), sl9⟩) (c9 : PySem.W.codeIn K cd9 "_law_wide" = true) (k9 : PySem.W.keepIn K (.ref f9) = true)
    (a10 : PySem.W.nsIn K mainGlobals "_law_rule" = some (some (.ref f10))) (l10 : K.lookup f10 = some ⟨oc10, od10, .func (PySem.W.fnOf "_law_rule" "_law_rule" (defArgs s__law_rule) (defBody s__law_rule) (defScope s__law_rule) .none kV10 dc10 pm10 an10 cd10 ct10), sl10⟩) (c10 : PySem.W.codeIn K cd10 "_law_rule" = true) (k10 : PySem.W.keepIn K (.ref f10) = true)
    (a11 : PySem.W.nsIn K mainGlobals "_law_terms" = some (some (.ref f11))) (l11 : K.lookup f11 = some ⟨oc11, od11, .func (PySem.W.fnOf "_law_terms" "_law_terms" (defArgs s__law_terms) (defBody s__law_terms) (defScope s__law_terms) .none kV11 dc11 pm11 an11 cd11 ct11), sl11⟩) (c11 : PySem.W.codeIn K cd11 "_law_terms" = true) (k11 : PySem.W.keepIn K (.ref f11) = true)
    (a12 : PySem.W.nsIn K mainGlobals "terms" = some (some (.ref f12))) (l12 : K.lookup f12 = some ⟨oc12, od12, .func (PySem.W.fnOf "terms" "terms" (defArgs s_terms) (defBody s_terms) (defScope s_terms) .none kV12 dc12 pm12 an12 cd12 ct12), sl12⟩) (c12 : PySem.W.codeIn K cd12 "terms" = true) (k12 : PySem.W.keepIn K (.ref f12) = true)
    (a13 : PySem.W.nsIn K mainGlobals "term" = some (some (.ref f13))) (l13 : K.lookup f13 = some ⟨oc13, od13, .func (PySem.W.fnOf "term" "term" (defArgs s_term) (defBody s_term) (defScope s_term) .none kV13 dc13 pm13 an13 cd13 ct13), sl13⟩) (c13 : PySem.W.codeIn K cd13 "term" = true) (k13 : PySem.W.keepIn K (.ref f13) = true)
    (a14 : PySem.W.nsIn K mainGlobals "_law_bent" = some (some (.ref f14))) (l14 : K.lookup f14 = some ⟨oc14, od14, .func (PySem.W.fnOf "_law_bent" "_law_bent" (defArgs s__law_bent) (defBody s__law_bent) (defScope s__law_bent) .none kV14 dc14 pm14 an14 cd14 ct14), sl14⟩) (c14 : PySem.W.codeIn K cd14 "_law_bent" = true) (k14 : PySem.W.keepIn K (.ref f14) = true)
    (a15 : PySem.W.nsIn K mainGlobals "_law_is_so" = some (some (.ref f15))) (l15 : K.lookup f15 = some ⟨oc15, od15, .func (PySem.W.fnOf "_law_is_so" "_law_is_so" (defArgs s__law_is_so) (defBody s__law_is_so) (defScope s__law_is_so) .none kV15 dc15 pm15 an15 cd15 ct15), sl15⟩) (c15 : PySem.W.codeIn K cd15 "_law_is_so" = true) (k15 : PySem.W.keepIn K (.ref f15) = true)
    (a16 : PySem.W.nsIn K mainGlobals "law" = some (some (.ref f16))) (l16 : K.lookup f16 = some ⟨oc16, od16, .func (PySem.W.fnOf "law" "law" (defArgs s_law) (defBody s_law) (defScope s_law) .none kV16 dc16 pm16 an16 cd16 ct16), sl16⟩) (c16 : PySem.W.codeIn K cd16 "law" = true) (k16 : PySem.W.keepIn K (.ref f16) = true)
    (z1 : PySem.W.nsIn K mainGlobals "all" = some none) (z2 : PySem.W.nsIn K mainGlobals "bool" = some none) (z3 : PySem.W.nsIn K mainGlobals "enumerate" = some none) (z4 : PySem.W.nsIn K mainGlobals "int" = some none) (z5 : PySem.W.nsIn K mainGlobals "isinstance" = some none) (z6 : PySem.W.nsIn K mainGlobals "len" = some none) (z7 : PySem.W.nsIn K mainGlobals "list" = some none) (z8 : PySem.W.nsIn K mainGlobals "max" = some none) (z9 : PySem.W.nsIn K mainGlobals "range" = some none) (z10 : PySem.W.nsIn K mainGlobals "repr" = some none) (z11 : PySem.W.nsIn K mainGlobals "sum" = some none) (z12 : PySem.W.nsIn K mainGlobals "tuple" = some none) :
    ∃ fd : FuncData, (∀ (s : Shared) (v : Value), BindsTo s fd ⟨[v], []⟩ [("_law_script", v)]) ∧ ∀ base : Heap, K.In base → base.Ns mainGlobals mg → base.NoDigits → GFn l.prog w K mg base CX0 5 fa fd ["_law_script"] (spLaw K) := by
  have e := hfa.symm.trans (PySem.W.mg_of X G a16)
  cases e
  have F1 := fun_mk (st := s_is_pair_of_tuples) l1 c1 k1
  have b1 := F1.binds (ps := ["thing"]) fun _ _ _ _ _ _ us hl => match us, hl with | [_], _ => rfl
  have m1 := PySem.W.mg_of X G a1
  have F2 := fun_mk (st := s_is_tuple_of) l2 c2 k2
  have b2 := F2.binds (ps := ["thing", "many"]) fun _ _ _ _ _ _ us hl => match us, hl with | [_, _], _ => rfl
  have m2 := PySem.W.mg_of X G a2
  have F3 := fun_mk (st := s_is_integer) l3 c3 k3
  have b3 := F3.binds (ps := ["thing"]) fun _ _ _ _ _ _ us hl => match us, hl with | [_], _ => rfl
  have m3 := PySem.W.mg_of X G a3
  have F4 := fun_mk (st := s_is_rule) l4 c4 k4
  have b4 := F4.binds (ps := ["thing"]) fun _ _ _ _ _ _ us hl => match us, hl with | [_], _ => rfl
  have m4 := PySem.W.mg_of X G a4
  have F5 := fun_mk (st := s__law_is_right) l5 c5 k5
  have b5 := F5.binds (ps := ["_law_it"]) fun _ _ _ _ _ _ us hl => match us, hl with | [_], _ => rfl
  have m5 := PySem.W.mg_of X G a5
  have F6 := fun_mk (st := s__law_draw) l6 c6 k6
  have b6 := F6.binds (ps := ["_law_deck_here", "_law_bound"]) fun _ _ _ _ _ _ us hl => match us, hl with | [_, _], _ => rfl
  have m6 := PySem.W.mg_of X G a6
  have F7 := fun_mk (st := s__law_pick) l7 c7 k7
  have b7 := F7.binds (ps := ["_law_deck_here", "_law_some"]) fun _ _ _ _ _ _ us hl => match us, hl with | [_, _], _ => rfl
  have m7 := PySem.W.mg_of X G a7
  have F8 := fun_mk (st := s__law_deck) l8 c8 k8
  have b8 := F8.binds (ps := ["_law_script"]) fun _ _ _ _ _ _ us hl => match us, hl with | [_], _ => rfl
  have m8 := PySem.W.mg_of X G a8
  have F9 := fun_mk (st := s__law_wide) l9 c9 k9
  have b9 := F9.binds (ps := ["_law_deck_here"]) fun _ _ _ _ _ _ us hl => match us, hl with | [_], _ => rfl
  have m9 := PySem.W.mg_of X G a9
  have F10 := fun_mk (st := s__law_rule) l10 c10 k10
  have b10 := F10.binds (ps := ["_law_deck_here", "_law_top"]) fun _ _ _ _ _ _ us hl => match us, hl with | [_, _], _ => rfl
  have m10 := PySem.W.mg_of X G a10
  have F11 := fun_mk (st := s__law_terms) l11 c11 k11
  have b11 := F11.binds (ps := ["_law_rule_here", "_law_many"]) fun _ _ _ _ _ _ us hl => match us, hl with | [_, _], _ => rfl
  have m11 := PySem.W.mg_of X G a11
  have F12 := fun_mk (st := s_terms) l12 c12 k12
  have b12 := F12.binds (ps := ["rule", "many"]) fun _ _ _ _ _ _ us hl => match us, hl with | [_, _], _ => rfl
  have m12 := PySem.W.mg_of X G a12
  have F13 := fun_mk (st := s_term) l13 c13 k13
  have b13 := F13.binds (ps := ["rule", "index"]) fun _ _ _ _ _ _ us hl => match us, hl with | [_, _], _ => rfl
  have m13 := PySem.W.mg_of X G a13
  have F14 := fun_mk (st := s__law_bent) l14 c14 k14
  have b14 := F14.binds (ps := ["_law_deck_here", "_law_it"]) fun _ _ _ _ _ _ us hl => match us, hl with | [_, _], _ => rfl
  have m14 := PySem.W.mg_of X G a14
  have F15 := fun_mk (st := s__law_is_so) l15 c15 k15
  have b15 := F15.binds (ps := ["_law_it"]) fun _ _ _ _ _ _ us hl => match us, hl with | [_], _ => rfl
  have m15 := PySem.W.mg_of X G a15
  have F16 := fun_mk (st := s_law) l16 c16 k16
  have kb1 := kb_of (ps := ["thing"]) (ks := ["thing"]) (g := kwOne) (gV := kwOne) F4 (fun kV doc pm an cdv ct us ws hl => by
    obtain ⟨x, rfl, rfl⟩ := kwOne_args (β := Nat) hl
    rfl) kwOne_rel
  have kb2 := kb_of (ps := ["rule", "many"]) (ks := ["many", "rule"]) (g := kwTurn) (gV := kwTurn) F12 (fun kV doc pm an cdv ct us ws hl => by
    obtain ⟨x, y, rfl, rfl⟩ := kwTurn_args (β := Nat) hl
    rfl) kwTurn_rel
  have kb3 := kb_of (ps := ["rule", "index"]) (ks := ["index", "rule"]) (g := kwTurn) (gV := kwTurn) F13 (fun kV doc pm an cdv ct us ws hl => by
    obtain ⟨x, y, rfl, rfl⟩ := kwTurn_args (β := Nat) hl
    rfl) kwTurn_rel
  have T : Txt mg := ⟨PySem.W.mg_none_of X G z1, PySem.W.mg_none_of X G z2, PySem.W.mg_none_of X G z3, PySem.W.mg_none_of X G z4, PySem.W.mg_none_of X G z5, PySem.W.mg_none_of X G z6, PySem.W.mg_none_of X G z7, PySem.W.mg_none_of X G z8, PySem.W.mg_none_of X G z9, PySem.W.mg_none_of X G z10, PySem.W.mg_none_of X G z11, PySem.W.mg_none_of X G z12⟩
  refine ⟨PySem.W.fnOf "law" "law" (defArgs s_law) (defBody s_law) (defScope s_law) .none kV16 dc16 pm16 an16 cd16 ct16, fun s v => .of_eq rfl, fun base _ _ hdg => ?_⟩
  exact ok_law hdg F16 F1 m1 b1 F2 m2 b2 F3 m3 b3 F4 m4 b4 kb1 F5 m5 b5 F6 m6 b6 F7 m7 b7 F8 m8 b8 F9 m9 b9 F10 m10 b10 F11 m11 b11 F12 m12 b12 kb2 F13 m13 b13 kb3 F14 m14 b14 F15 m15 b15 T
end SG
open PySem PySem.W PyProof.Rows
set_option maxHeartbeats 0 in
theorem PySem.Challenge.cw_serialhouse_k12_rules_of_any_value_holds : PySem.Challenge.rw_serialhouse_k12_rules_of_any_value.Holds := by
  w_on; o_law; k_head; (case hw => w_witness2)
  k_fill
  refine SG.walk_g (l := PySem.Challenge.rw_serialhouse_k12_rules_of_any_value) (n := 63) (k := 5) (x := "_law_script") (sp := SG.spLaw) rfl (by decide) rfl ⟨rfl, by decide, by decide⟩ (fun w h Y => PySem.W.kIn_of Y) ?F (fun _ _ a ns hl _ hS => ⟨a, ns, rfl, hS, hl, fun _ => rfl⟩)
  case F =>
    intro w mg fa h KX G hmg
    refine' SG.all_mk KX G hmg ?a1 ?l1 ?c1 ?k1 ?a2 ?l2 ?c2 ?k2 ?a3 ?l3 ?c3 ?k3 ?a4 ?l4 ?c4 ?k4 ?a5 ?l5 ?c5 ?k5 ?a6 ?l6 ?c6 ?k6 ?a7 ?l7 ?c7 ?k7 ?a8 ?l8 ?c8 ?k8 ?a9 ?l9 ?c9 ?k9 ?a10 ?l10 ?c10 ?k10 ?a11 ?l11 ?c11 ?k11 ?a12 ?l12 ?c12 ?k12 ?a13 ?l13 ?c13 ?k13 ?a14 ?l14 ?c14 ?k14 ?a15 ?l15 ?c15 ?k15 ?a16 ?l16 ?c16 ?k16 ?z1 ?z2 ?z3 ?z4 ?z5 ?z6 ?z7 ?z8 ?z9 ?z10 ?z11 ?z12
    (case a1 => k_is); (case l1 => k_is); (case c1 => k_is); (case k1 => k_is); (case a2 => k_is); (case l2 => k_is); (case c2 => k_is); (case k2 => k_is); (case a3 => k_is); (case l3 => k_is); (case c3 => k_is); (case k3 => k_is); (case a4 => k_is); (case l4 => k_is); (case c4 => k_is); (case k4 => k_is); (case a5 => k_is); (case l5 => k_is); (case c5 => k_is); (case k5 => k_is); (case a6 => k_is); (case l6 => k_is); (case c6 => k_is); (case k6 => k_is); (case a7 => k_is); (case l7 => k_is); (case c7 => k_is); (case k7 => k_is); (case a8 => k_is); (case l8 => k_is); (case c8 => k_is); (case k8 => k_is); (case a9 => k_is); (case l9 => k_is); (case c9 => k_is); (case k9 => k_is); (case a10 => k_is); (case l10 => k_is); (case c10 => k_is); (case k10 => k_is); (case a11 => k_is); (case l11 => k_is); (case c11 => k_is); (case k11 => k_is); (case a12 => k_is); (case l12 => k_is); (case c12 => k_is); (case k12 => k_is); (case a13 => k_is); (case l13 => k_is); (case c13 => k_is); (case k13 => k_is); (case a14 => k_is); (case l14 => k_is); (case c14 => k_is); (case k14 => k_is); (case a15 => k_is); (case l15 => k_is); (case c15 => k_is); (case k15 => k_is); (case a16 => k_is); (case l16 => k_is); (case c16 => k_is); (case k16 => k_is); (case z1 => k_is); (case z2 => k_is); (case z3 => k_is); (case z4 => k_is); (case z5 => k_is); (case z6 => k_is); (case z7 => k_is); (case z8 => k_is); (case z9 => k_is); (case z10 => k_is); (case z11 => k_is); (case z12 => k_is)
