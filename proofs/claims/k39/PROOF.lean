import PyProof.Rows.All
import Wide.All
import OpenK.AllK
import Wide.FinOn
import HandS.ForMost
import HandS.IsInst
import HandS.Style
import HandS.Wide
import PyProof.Rows.Digits
import KE.GoesEnum
import HandS.Zip
import HandS.TupAny
import HandS.Codes
import PyProof.ReprBulk
import HandS.Text
import KE.GoesEnumKw
import PyProof.FString3
import PyProof.Rows.StrIntSpec
import HandS.FStr
import HandS.Walk
import PySem.Challenge.RW_serialhouse_k39_draws_among
set_option Elab.async false
set_option linter.all false
set_option maxRecDepth 100000
/-! Contracts of defs that know the guards: where no text of an object is being told, repr can be asked. -/
namespace SG
open PySem PySem.Spec PyProof.Rows L2

/-- a def's promise, kept wherever no guard stands -/
structure GFn (pr : Program) (wo : World) (K : PySem.W.Frag) (mg : Str → Option Value) (ba : Heap) (cx : CXT) (k : Nat) (f : Addr) (fd : FuncData) (ps : List Str) (sp : Sp) : Prop where
  len : ∀ xs Hx R Ex, sp xs Hx R Ex → xs.length = ps.length
  go : ∀ (B : Around) (fr : List Env) (st : Shared) (Hx : Hp) (ar : Args) (vals : List Value) (xs : List V) (R : VK) (Ex : XK),
    B.guards = some [] → Room k B → Env0 pr wo K mg ba B fr st Hx → BindsTo st fd ar (ps.zip vals) → Vals xs vals → sp xs Hx R Ex →
    codeAny (model pr wo) B (.call (.ref f) ar) (CR cx fr pr wo Hx st R Ex) st

variable {pr : Program} {wo : World} {K : PySem.W.Frag} {mg : Str → Option Value} {ba : Heap} {cx : CXT}

theorem GFn.mono {j k : Nat} {f : Addr} {fd : FuncData} {ps : List Str} {sp : Sp} (F : GFn pr wo K mg ba cx j f fd ps sp) (h : j ≤ k) :
    GFn pr wo K mg ba cx k f fd ps sp :=
  ⟨F.len, fun B fr st Hx ar vals xs R Ex g hr => F.go B fr st Hx ar vals xs R Ex g (hr.mono h)⟩
theorem GFn.imp {k : Nat} {f : Addr} {fd : FuncData} {ps : List Str} {sp sq : Sp} (F : GFn pr wo K mg ba cx k f fd ps sp)
    (h : ∀ xs Hx R Ex, sq xs Hx R Ex → sp xs Hx R Ex) : GFn pr wo K mg ba cx k f fd ps sq :=
  ⟨fun xs Hx R Ex q => F.len xs Hx R Ex (h _ _ _ _ q), fun B fr st Hx ar vals xs R Ex g hr e b v q => F.go B fr st Hx ar vals xs R Ex g hr e b v (h _ _ _ _ q)⟩
/-- what is kept anywhere is kept here -/
theorem GFn.of {k : Nat} {f : Addr} {fd : FuncData} {ps : List Str} {sp : Sp} (F : FnOk pr wo K mg ba cx k f fd ps sp) : GFn pr wo K mg ba cx k f fd ps sp :=
  ⟨F.len, fun B fr st Hx ar vals xs R Ex _ hr => F.run B fr st Hx ar vals xs R Ex hr⟩

/-- a def by its body -/
theorem gfn_of {k : Nat} {f : Addr} {nm qn : Str} {pa : Arguments} {bd : List Stmt} {sc : Scope} {dV kV dc pm cdv ct oc : Value} {an od : Option Addr} {osl : Array (Option Value)} {N ps : List Str} {sp : Sp}
    (lk : K.lookup f = some ⟨oc, od, .func (PySem.W.fnOf nm qn pa bd sc dV kV dc pm an cdv ct), osl⟩) (hcd : PySem.W.codeIn K cdv qn = true) (S : FnScope N ps sc)
    (len : ∀ xs Hx R Ex, sp xs Hx R Ex → xs.length = ps.length)
    (hb : ∀ (B : Around) (fr : List Env) (st : Shared) (Hx : Hp) (xs : List V) (R : VK) (Ex : XK), B.guards = some [] → Room k (B.deeper (envOfC qn sc st.heap.objs.size f cdv)) → sp xs Hx R Ex →
      ∃ t, PSs (cxOf cx pr wo K mg ba N qn sc f cdv B fr st Hx Ex) bd t ∧ t { nx := fun _ H2 => R .non H2, rt := R } (start N xs) Hx) :
    GFn pr wo K mg ba cx (k + 1) f (PySem.W.fnOf nm qn pa bd sc dV kV dc pm an cdv ct) ps sp := by
  refine ⟨len, fun B fr st Hx ar vals xs R Ex g hr e0 hbd rv hsp => ?_⟩
  have KX : K.In st.heap := e0.mod.kin.keeps fun b o e => (e0.bs b o e).1
  have lim : st.heap.NoLimit := e0.mod.nolimit.keeps fun b o e => (e0.bs b o e).1
  have hkn : ∀ y ∈ ps.zip vals, sc.names.lookup y.1 = some .local ∨ (sc.names.lookup y.1 = some .cell ∧ ((cellsFrom (st.heap.objs.size + 1) sc.names []).lookup y.1).isSome = true) := by
    rintro ⟨n, v⟩ hy
    rcases S.par n (List.of_mem_zip hy).1 with q | q
    · exact .inl q
    · exact .inr ⟨q, PySem.W.cellsFrom_some _ _ _ (.inl q)⟩
  refine codeAny_call_function hr.depth (KX _ _ lk) rfl S.co S.gen rfl (PySem.W.codeRec_of KX hcd) (hbd _ _ _ _ ?_)
  refine wpAny_newFunctionEnv_cells S.kind hkn fun env he s1 x => ?_
  subst he
  refine ⟨lim.keeps x.toInCall.keep, codeAny_func ?_⟩
  obtain ⟨t, ht, hq⟩ := hb B fr st Hx xs R Ex g (hr.deeper _) hsp
  have I : Inv (cxOf cx pr wo K mg ba N qn sc f cdv B fr st Hx Ex) [] (start N xs) Hx s1 := inv_start S hr.hd e0 (len _ _ _ _ hsp) rv x
  refine wpAny_mono (ht.run [] s1 (start N xs) Hx _ I hq) (fun fl s2 hs => ?_) fun e s2 hs => hs
  have fin : ∀ {τ : L2.St} {H2 : Hp} {v : V} {u : Value}, Inv (cxOf cx pr wo K mg ba N qn sc f cdv B fr st Hx Ex) [] τ H2 s2 → RelV v u → R v H2 → CE fr pr wo Hx st R u s2 :=
    fun {τ H2 v u} J r1 q => ⟨v, H2, J.os, J.bare, J.base, J.hok, r1, q⟩
  cases fl with
  | ret u => obtain ⟨v, τ, H2, J, r1, q⟩ := hs; exact fin J r1 q
  | next => obtain ⟨τ, H2, J, q⟩ := hs; exact fin (v := V.non) (u := Value.none) J rfl q
  | brk => obtain ⟨_, _, _, q⟩ := hs; exact q.elim
  | cont => obtain ⟨_, _, _, q⟩ := hs; exact q.elim

theorem gfun_ok {x qn : Str} {s0 : Stmt} {f : Addr} {fd : FuncData} {N ps : List Str} {k : Nat} {sp : Sp} (F : Fun K x qn s0 f fd) (S : FnScope N ps (defScope s0)) (len : ∀ xs Hx R Ex, sp xs Hx R Ex → xs.length = ps.length)
    (hb : ∀ (cdv : Value) (B : Around) (fr : List Env) (st : Shared) (Hx : Hp) (xs : List V) (R : VK) (Ex : XK), (B.deeper (envOfC qn (defScope s0) st.heap.objs.size f cdv)).guards = some [] →
      Room k (B.deeper (envOfC qn (defScope s0) st.heap.objs.size f cdv)) → sp xs Hx R Ex →
      ∃ t, PSs (cxOf CX0 pr wo K mg ba N qn (defScope s0) f cdv B fr st Hx Ex).nox (defBody s0) t ∧ t { nx := fun _ H2 => R .non H2, rt := R } (start N xs) Hx) :
    GFn pr wo K mg ba CX0 (k + 1) f fd ps sp := by
  obtain ⟨oc, od, kV, dc, pm, an, cdv, ct, osl, rfl, lk, hcd⟩ := F.ex
  refine gfn_of lk hcd S len fun B fr st Hx xs R Ex g hr hsp => ?_
  obtain ⟨t, h, q⟩ := hb cdv B fr st Hx xs R Ex g hr hsp
  exact ⟨t, h.nox, q⟩

section
variable {X : Cx} {k : Nat} {f : Addr} {fd : FuncData} {ps ks : List Str} {sp : Sp} {dvs : List V} {ds : List Value} {Ex : XK} {x : Str} {p pos : Pos} {e : Expr} {es : List Expr} {kws : List Keyword} {t tk : TA}

theorem end_of {pins : List (Addr × Obj)} {σ : L2.St} {Hx : Hp} {st s2 : Shared} {R : VK} {r : Result} (hx : Passes cx X Ex) (I : Inv X pins σ Hx st) (q : CR cx X.stack X.prog X.w Hx st R Ex r s2) :
    (match r with | .ok (.ret u) => EP X pins σ R u s2 | .ok _ => False | .error e => X.xe e s2) := by
  cases r with
  | error e => exact hx pins σ Hx st e s2 I q
  | ok fl => cases fl <;> first | exact I.after q | exact False.elim q

theorem run_g {pins : List (Addr × Obj)} {σ : L2.St} {Hx : Hp} {st : Shared} {R : VK} {ar : Args} {vals : List Value} {xs : List V} (F : GFn X.prog X.w X.K X.mg X.base cx k f fd ps sp) (hg : X.A.guards = some []) (hr : Room k X.A) (hx : Passes cx X Ex)
    (I : Inv X pins σ Hx st) (hb : BindsTo st fd ar (ps.zip vals)) (r : Vals xs vals) (h : sp xs Hx R Ex) {us : List Value} {kw : List (Str × Value)} (ea : ar = ⟨us, kw⟩) : wpAny (model X.prog X.w) X.A (call (.ref f) us kw) (EP X pins σ R) X.xe st := by
  subst ea
  refine wpAny_call (codeAny_mono (F.go X.A X.stack st Hx _ vals xs R Ex hg hr I.env0 hb r h) fun r s2 hq => ?_)
  have z := end_of hx I hq
  cases r with
  | error e => exact z
  | ok fl => cases fl <;> exact z

/-- f(a, ..) -/
theorem pe_g (F : GFn X.prog X.w X.K X.mg X.base cx k f fd ps sp) (hgu : X.A.guards = some []) (hr : Room k X.A) (hg : Gl X x) (hm : X.mg x = some (.ref f)) (hk : PySem.W.keepIn X.K (.ref f) = true) (hb : Binds X.K fd ps ds) (hd : Vals dvs ds) (hx : Passes cx X Ex)
    (ha : PA X (e :: es) t) (hdb : (x == ("__debug__" : Str)) = false := by decide) (he : starEach (e :: es) X.env = (false, eval e X.env) :: starEach es X.env := by rfl) (hpl : (backTo pos (starEach es X.env)).any (·.1) = false := by rfl) :
    PE X (.Call (.Name x p) (e :: es) [] pos) (tCall sp dvs Ex t) := by
  refine ⟨fun pins st σ Hx R I h => wpAny_Call_Name_kw (ld_glob I hg hm ?_ hdb)⟩
  refine PySem.W.callWith_K (h₀ := X.base) I.ok.mod.kin hk (thn (ha.run pos pins st σ Hx _ I h) ?_) he hpl
  rintro us s1 ⟨vs, H1, I1, r, q⟩
  have r2 : Vals (vs ++ dvs) (us ++ ds) := r.append hd
  exact ⟨I1.kIn, run_g F hgu hr hx I1 (hb s1 us I1.kIn (by rw [← r2.length]; exact F.len _ _ _ _ q)) r2 q rfl⟩

/-- f(a, .., k = b, ..) -/
theorem pe_gK {g : List Value → List Value → List Value} {gV : List V → List V → List V} (F : GFn X.prog X.w X.K X.mg X.base cx k f fd ps sp) (hgu : X.A.guards = some []) (hr : Room k X.A) (hg : Gl X x) (hm : X.mg x = some (.ref f)) (hk : PySem.W.keepIn X.K (.ref f) = true)
    (hb : KBinds X.K fd ps ks g gV) (hx : Passes cx X Ex) (ha : PA X (e :: es) t) (hkw : PK X kws tk) (hall : (backToKw pos (keywordEach kws X.env)).all (·.1.isSome) = true := by rfl) (hks : (backToKw pos (keywordEach kws X.env)).filterMap (·.1) = ks := by rfl)
    (hdb : (x == ("__debug__" : Str)) = false := by decide) (he : starEach (e :: es) X.env = (false, eval e X.env) :: starEach es X.env := by rfl)
    (hpl : ((backTo pos (starEach (e :: es) X.env)).any (·.1) || (backToKw pos (keywordEach kws X.env)).any (·.1.isNone)) = false := by rfl) :
    PE X (.Call (.Name x p) (e :: es) kws pos) (tCallK sp gV Ex t tk) := by
  refine ⟨fun pins st σ Hx R I h => wpAny_Call_Name_kw (ld_glob I hg hm ?_ hdb)⟩
  refine PySem.W.callWith_KW (h₀ := X.base) I.ok.mod.kin hk hall (thn (ha.run pos pins st σ Hx _ I h) ?_) hpl he
  rintro us s1 ⟨vs, H1, I1, r, q⟩
  refine thn (hkw.run pos pins s1 σ H1 _ I1 q) ?_
  rintro ws s2 ⟨zs, H2, I2, rz, q2⟩
  refine ⟨I2.kIn, ?_⟩
  rw [hks]
  have r2 := hb.rel r rz
  exact run_g F hgu hr hx I2 (hb.to s2 us ws I2.kIn (by rw [← r2.length]; exact F.len _ _ _ _ q2)) r2 q2 rfl
/-- f(k = b, ..) -/
theorem pe_gK0 {g : List Value → List Value → List Value} {gV : List V → List V → List V} (F : GFn X.prog X.w X.K X.mg X.base cx k f fd ps sp) (hgu : X.A.guards = some []) (hr : Room k X.A) (hg : Gl X x) (hm : X.mg x = some (.ref f)) (hk : PySem.W.keepIn X.K (.ref f) = true)
    (hb : KBinds X.K fd ps ks g gV) (hx : Passes cx X Ex) (hkw : PK X kws tk) (hall : (backToKw pos (keywordEach kws X.env)).all (·.1.isSome) = true := by rfl) (hks : (backToKw pos (keywordEach kws X.env)).filterMap (·.1) = ks := by rfl)
    (hdb : (x == ("__debug__" : Str)) = false := by decide) (hpl : ((backTo pos (starEach [] X.env)).any (·.1) || (backToKw pos (keywordEach kws X.env)).any (·.1.isNone)) = false := by rfl) :
    PE X (.Call (.Name x p) [] kws pos) (tCallK sp gV Ex tNil tk) := by
  refine ⟨fun pins st σ Hx R I h => wpAny_Call_Name_kw (ld_glob I hg hm ?_ hdb)⟩
  refine PySem.W.callWith_KW0 (h₀ := X.base) I.ok.mod.kin hk hall (thn (hkw.run pos pins st σ Hx _ I h) ?_) hpl
  rintro ws s2 ⟨zs, H2, I2, rz, q2⟩
  refine ⟨I2.kIn, ?_⟩
  rw [hks]
  have r2 := hb.rel (Paired.nil : Vals [] []) rz
  exact run_g F hgu hr hx I2 (hb.to s2 [] ws I2.kIn (by rw [← r2.length]; exact F.len _ _ _ _ q2)) r2 q2 rfl
end

/-! ### the law's own call -/
theorem law_g {mb : Str → Option Value} {k : Nat} {fa a : Addr} {fd : FuncData} {x : Str} {sp : Sp} {s1 : Shared} {its : List Value} {ns : List Int}
    (KX : K.In s1.heap) (hmg : s1.heap.Ns mainGlobals mg) (hmb : s1.heap.Ns builtinsNs mb) (hbb : ∀ x : Str, x ≠ "__name__" → mb x = bootBuiltins x) (hlim : s1.heap.NoLimit) (hdig : s1.heap.NoDigits) (hgen : s1.gens = #[])
    (ha : s1.heap.get? a = some { cls := .type "list", data := .seq its.toArray }) (hi : IntsAre its ns) (hl : ns.length ≤ sizeLine) (hr : Room k callerA)
    (F : ∀ ba : Heap, K.In ba → ba.Ns mainGlobals mg → ba.NoDigits → GFn pr wo K mg ba CX0 k fa fd [x] sp) (hbi : ∀ (st : Shared) (u : Value), BindsTo st fd ⟨[u], []⟩ [(x, u)])
    (hsp : ∀ Hx : Hp, Only Hx → SqL K Hx a (ns.map V.int) → sp [.ref a] Hx (fun v _ => v = .bl true) E0) :
    codeAny (model pr wo) callerA (.call (.ref fa) ⟨[.ref a], []⟩) (fun r s2 => r = .ok (.ret (.bool true)) ∧ OldK s1.heap s2.heap ∧ s2.os = s1.os ∧ AllBare s2.gens) s1 := by
  have rv := vals_ints hi
  have main : ∀ Hx : Hp, Only Hx → SqL K Hx a (ns.map V.int) → HOk pr wo Hx s1.heap → (∀ b, Hx b ≠ none → b = a) → (Hx a ≠ none → K.lookup a = none) →
      codeAny (model pr wo) callerA (.call (.ref fa) ⟨[.ref a], []⟩) (fun r s2 => r = .ok (.ret (.bool true)) ∧ OldK s1.heap s2.heap ∧ s2.os = s1.os ∧ AllBare s2.gens) s1 := by
    intro Hx hO hS ok one free
    have isA : ∀ {b : Addr} {u : HO}, Hx b = some u → b = a := fun {b u} q => one b (by rw [q]; nofun)
    have hid : ∀ {b : Addr} {o : Obj}, s1.heap.get? b = some o → Hx b = none → (hidT s1.heap Hx).get? b = some o := fun e n => hidT_get e n
    have noD : ∀ {b : Addr} {o : Obj} {es : Array DictEntry} {ep : Nat}, s1.heap.get? b = some o → o.data = .dict es ep → Hx b = none := by
      intro b o es ep e d
      rcases q : Hx b with _ | u
      · rfl
      · rw [isA q, ha] at e
        cases e
        cases d
    have nsH : ∀ {b : Addr} {m : Str → Option Value}, s1.heap.Ns b m → (hidT s1.heap Hx).Ns b m := by
      rintro b m ⟨o, es, ep, e, d, r⟩
      exact ⟨o, es, ep, hid e (noD e d), d, r⟩
    have kin : K.In (hidT s1.heap Hx) := by
      intro b o e
      refine hid (KX b o e) ?_
      rcases q : Hx b with _ | u
      · rfl
      · have eb := isA q
        subst eb
        rw [free (by rw [q]; nofun)] at e
        cases e
    have hM : Mod K mg (hidT s1.heap Hx) := ⟨kin, nsH hmg, ⟨mb, nsH hmb, hbb⟩, by obtain ⟨mc, h1, h2⟩ := hlim; exact ⟨mc, nsH h1, h2⟩⟩
    have e0 : Env0 pr wo K mg (hidT s1.heap Hx) callerA [] s1 Hx := ⟨rfl, hM, fun b o e => of_hidT e, Nat.le_of_eq (hidT_size _ _), trivial, fun b hb => (nomatch hb), ok, .of_eq hgen⟩
    refine codeAny_mono ((F _ kin (nsH hmg) (by obtain ⟨mc, h1, h2⟩ := hdig; exact ⟨mc, nsH h1, h2⟩)).go callerA [] s1 Hx ⟨[.ref a], []⟩ [.ref a] [.ref a] _ _ rfl hr e0 (hbi s1 (.ref a)) (.cons rfl .nil) (hsp Hx hO hS)) fun r s2 h => ?_
    rcases r with e | fl
    · exact False.elim h
    · cases fl with
      | next => exact False.elim h
      | brk => exact False.elim h
      | cont => exact False.elim h
      | ret u =>
        obtain ⟨v, H2, os, bare, un, ok2, r2, q⟩ := h
        obtain rfl : v = .bl true := q
        obtain rfl : u = Value.bool true := r2
        refine ⟨rfl, OldK.of_keep fun b o e => ?_, os, bare⟩
        rcases q : Hx b with _ | u
        · exact un.keep b o e q (fun z => nomatch z) (fun z => nomatch z)
        · rcases hO b with z | ⟨ob, xs, z⟩
          · rw [q] at z; cases z
          · obtain ⟨e1, _⟩ := ok b _ z
            obtain ⟨e2, _⟩ := ok2 b _ (un.frzs b ob _ z)
            rw [e] at e1
            cases e1
            exact e2
  rcases hk : K.lookup a with _ | o
  · refine main (fun b => if b = a then some (.frz { cls := .type "list", data := .seq its.toArray } (.lst (ns.map V.int))) else none) (fun b => ?_) (.inl (.inr ⟨_, if_pos rfl⟩)) (fun b u z => ?_) (fun b z => ?_) fun _ => hk
    · by_cases hb : b = a
      · exact .inr ⟨_, _, if_pos hb⟩
      · exact .inl (if_neg hb)
    · by_cases hb : b = a
      · cases (if_pos hb).symm.trans z
        subst hb
        exact ⟨ha, by rw [List.length_map]; exact hl, its, _, rv, ha⟩
      · cases (if_neg hb).symm.trans z
    · by_cases hb : b = a
      · exact hb
      · exact absurd (if_neg hb) z
  · have e := KX a o hk
    rw [ha] at e
    cases e
    exact main (fun _ => none) (fun _ => .inl rfl) (.inr ⟨_, its.toArray, _, hk, rfl, rfl, rfl, by rw [List.size_toArray, hi.length]; exact hl, by simpa using rv⟩) (fun b u z => nomatch z) (fun b z => absurd rfl z) fun z => absurd rfl z

theorem walk_g {l : PySem.W.OpenLaw} {n k : Nat} {q : Program} {loose : List Str} {XP : (Str → Option Value) → Heap → Prop} {YP : World → Heap → Prop} {d : DefRec} {K : Params → PySem.W.Frag} {sp : PySem.W.Frag → Sp} {x : Str}
    (hn : l.most = some n) (hn2 : n ≤ sizeLine) (hdf : d.params.defaults = []) (hr : Room k callerA)
    (hY : ∀ (wo : World) (h : Heap), YP wo h → (K wo.params).In h)
    (F : ∀ (wo : World) (mg : Str → Option Value) (fa : Addr) (h : Heap), (K wo.params).In h → h.Ns mainGlobals mg → mg d.name = some (.ref fa) →
      ∃ fd : FuncData, (∀ (st : Shared) (u : Value), BindsTo st fd ⟨[u], []⟩ [(x, u)]) ∧
        ∀ ba : Heap, (K wo.params).In ba → ba.Ns mainGlobals mg → ba.NoDigits → GFn l.prog wo (K wo.params) mg ba CX0 k fa fd [x] (sp (K wo.params)))
    (hsp : ∀ (K : PySem.W.Frag) (Hx : Hp) (a : Addr) (ns : List Int), ns.length ≤ n → Only Hx → SqL K Hx a (ns.map V.int) → sp K [.ref a] Hx (fun v _ => v = .bl true) E0) :
    PySem.W.WalkO q loose XP YP l.row.toRowW d [] (fun f vs => PySem.call f vs) := by
  refine Att.attach_call hn hdf fun w s₀ s₁ mg mb fa o pm cd doc a vs ns G Y ho hd hcd hmg hobj hints hlen hg => ?_
  have KX := hY w _ Y
  obtain ⟨fd, hb, hF⟩ := F w mg fa _ KX G.T.g hmg
  exact law_g KX G.T.g G.T.b G.T.builtins G.T.nolimit G.T.nodigits hg hobj hints (Nat.le_trans hlen hn2) hr hF hb fun Hx hO hS => hsp _ Hx a ns hlen hO hS
end SG

/-! repr of data at any depth, with ints of up to 4300 figures. -/
namespace SG
open PySem PySem.Spec PyProof.Rows L2

mutual
/-- data whose ints can be told -/
def tellable : PyData → Bool
  | .int i => decide (i.natAbs < 10 ^ 4300)
  | .list xs => tellableAll xs
  | .tuple xs => tellableAll xs
  | .dict _ => false
  | .none => true
  | .bool _ => true
  | .str _ => true
def tellableAll : List PyData → Bool
  | [] => true
  | x :: xs => tellable x && tellableAll xs
end

section
variable {pr : Program} {wo : World} {B : Around} {Er : Value → Shared → Prop} {st : Shared}
theorem int_told {i : Int} {t : Tok} {Q : Value → Shared → Prop} (hn : st.heap.NoDigits) (hi : i.natAbs < 10 ^ 4300) (hq : Q (.str (toString i) st.toks) { st with toks := st.toks + 1 }) :
    wpAny (model pr wo) B (call (.builtin "int.__repr__") [.int i t]) Q Er st := by
  refine wpAny_call_entry F.slot_int_repr (typeIs_int st i t) F.entry_int_repr ?_ (F.args_int_repr_1 _)
  unfold Builtin.«int.__repr__»
  show wpAny _ _ (Builtin.overDigitLimit? i >>= _) _ _ st
  exact wpAny_bind (overDigitLimit_any hn (fun h => wpAny_bind (wpAny_mkStr (wpAny_pure ⟨_, rfl, hq⟩) (int_text_fits10 h))) fun h => absurd hi (Nat.not_lt.mpr h))
theorem int_shown {i : Int} {t : Tok} {Q : Value → Shared → Prop} (hu : B.units < cLine) (hn : st.heap.NoDigits) (hi : i.natAbs < 10 ^ 4300) (hq : Q (.str (toString i) st.toks) { st with toks := st.toks + 1 }) :
    wpAny (model pr wo) B (pyReprObj (.int i t)) Q Er st :=
  wpAny_pyReprObj_slot hu (typeIs_int _ i t) F.slot_int_repr.toG (int_told hn hi ⟨_, _, rfl, hq⟩)
theorem int_repr {i : Int} {t : Tok} {Q : Value → Shared → Prop} (hu : B.units + 1 < cLine) (hn : st.heap.NoDigits) (hi : i.natAbs < 10 ^ 4300) (hq : Q (.str (toString i) st.toks) { st with toks := st.toks + 1 }) :
    wpAny (model pr wo) B (call (.builtin "repr") [.int i t]) Q Er st :=
  call_repr_slot hu (typeIs_int _ i t) F.slot_int_repr.toG (int_told hn hi ⟨_, _, rfl, hq⟩)
theorem reprK_int {as : List Addr} {h₀ : Heap} {i : Int} {t : Tok} (hn : h₀.NoDigits) (hi : i.natAbs < 10 ^ 4300) (d : Nat) : ReprK pr wo as h₀ d (.int i t) (toString i) := by
  intro base hb A g E s Q hg hcl hu hk hQ
  rw [pyReprUnder_leaf (v := .int i t) (by omega) (fun _ e => nomatch e)]
  unfold pyRepr
  exact wpAny_bind (int_shown (by omega) (hn.keeps hk) hi (wpAny_pure (hQ s.heap _ fun _ _ e => e)))
mutual
theorem reprK_any {h₀ : Heap} (hn : h₀.NoDigits) : ∀ {v : Value} {d : PyData} {as : List Addr}, Reads h₀ v d as → tellable d = true → d.shown.length ≤ sizeLine →
    ∃ bs, ReadAtMost h₀ d.depth bs ∧ ReprK pr wo bs h₀ d.depth v d.shown := by
  intro v d as r ht hz
  cases r with
  | none => exact ⟨[], (fun _ h => nomatch h), by simp only [PyData.shown]; exact .of_is ReprIs.none _ _ _⟩
  | bool b => exact ⟨[], (fun _ h => nomatch h), by simp only [PyData.shown]; exact .of_is (ReprIs.bool b) _ _ _⟩
  | str x t => exact ⟨[], (fun _ h => nomatch h), by simp only [PyData.shown] at hz ⊢; exact .of_is (ReprIs.str x t hz) _ _ _⟩
  | int i t => exact ⟨[], (fun _ h => nomatch h), by simp only [PyData.shown]; exact reprK_int hn (of_decide_eq_true (by simpa only [tellable] using ht)) _⟩
  | list q1 q2 q3 q4 =>
    rename_i a o arr n xs bs₀
    have hz2 : (listText (PyData.shownAll xs)).length ≤ sizeLine := by simpa only [PyData.shown] using hz
    obtain ⟨bs, rb, kb⟩ := reprAllK_any hn q4 (by simpa [tellable] using ht) fun t m => Nat.le_trans (listText_mem_le m) hz2
    have whole : Reads h₀ (.ref a) (.list xs) _ := .list q1 q2 q3 q4
    refine ⟨a :: bs, ReadAtMost.cons whole (by simp only [PyData.depth]; omega) rb, ?_⟩
    have notIn : a ∉ bs := not_mem_of_deeper whole (by simp only [PyData.depth]; omega) rb
    simp only [PyData.depth, PyData.shown]
    rcases arr with ⟨_ | ⟨y, l⟩⟩
    · cases (show ReadsAll h₀ [] xs _ from q4)
      simp only [PyData.shownAll, listText_nil]
      exact ReprK.listEmpty q1 q2 q3
    · exact ReprK.list q1 q2 q3 notIn (by simpa using kb.length_eq) fun i y e => kb.item i y (by simpa using e)
  | tuple q1 q2 q3 q4 =>
    rename_i a o arr n xs
    have hz2 : (tupleText (PyData.shownAll xs)).length ≤ sizeLine := by simpa only [PyData.shown] using hz
    obtain ⟨bs, rb, kb⟩ := reprAllK_any hn q4 (by simpa [tellable] using ht) fun t m => Nat.le_trans (tupleText_mem_le m) hz2
    have whole : Reads h₀ (.ref a) (.tuple xs) _ := .tuple q1 q2 q3 q4
    refine ⟨a :: bs, ReadAtMost.cons whole (by simp only [PyData.depth]; omega) rb, ?_⟩
    have notIn : a ∉ bs := not_mem_of_deeper whole (by simp only [PyData.depth]; omega) rb
    simp only [PyData.depth, PyData.shown]
    exact ReprK.tuple q1 q2 q3 notIn kb
  | dict => simp [tellable] at ht
theorem reprAllK_any {h₀ : Heap} (hn : h₀.NoDigits) : ∀ {vs : List Value} {ds : List PyData} {as : List Addr}, ReadsAll h₀ vs ds as → tellableAll ds = true → (∀ t ∈ PyData.shownAll ds, t.length ≤ sizeLine) →
    ∃ bs, ReadAtMost h₀ (PyData.depthAll ds) bs ∧ ReprAllK pr wo bs h₀ (PyData.depthAll ds) vs (PyData.shownAll ds) := by
  intro vs ds as r ht hz
  cases r with
  | nil => exact ⟨[], (fun _ h => nomatch h), by simp only [PyData.shownAll]; exact .nil⟩
  | cons q1 q2 =>
    rename_i v vs d ds as₁ as₂
    have ht2 : tellable d = true ∧ tellableAll ds = true := by simpa [tellableAll] using ht
    obtain ⟨c1, rc1, k1⟩ := reprK_any hn q1 ht2.1 (hz _ (by simp only [PyData.shownAll]; exact List.mem_cons_self))
    obtain ⟨c2, rc2, k2⟩ := reprAllK_any hn q2 ht2.2 fun t m => hz t (by simp only [PyData.shownAll]; exact List.mem_cons_of_mem _ m)
    refine ⟨c1 ++ c2, (rc1.mono ?_).append (rc2.mono ?_), ?_⟩
    · simp only [PyData.depthAll]; exact Nat.le_max_left _ _
    · simp only [PyData.depthAll]; exact Nat.le_max_right _ _
    · simp only [PyData.depthAll, PyData.shownAll]
      exact .cons ((k1.more fun b m => List.mem_append_left _ m).level_le (Nat.le_max_left _ _)) (k2.more_le (fun b m => List.mem_append_right _ m) (Nat.le_max_right _ _))
end
/-- repr of what is no leaf -/
theorem repr_ref {h₀ : Heap} {a : Addr} {d : PyData} {as : List Addr} {Q : Value → Shared → Prop} (hn : h₀.NoDigits) (r : Reads h₀ (.ref a) d as) (ht : tellable d = true) (hz : d.shown.length ≤ sizeLine)
    (hg : B.guards = some []) (hu : B.units + (d.depth + 1) < cLine) (hk : ∀ b o, h₀.get? b = some o → st.heap.get? b = some o)
    (hQ : ∀ h2 u tk, (∀ b o, st.heap.get? b = some o → h2.get? b = some o) → Q (.str d.shown u) { st with heap := h2, toks := tk }) :
    wpAny (model pr wo) B (call (.builtin "repr") [.ref a]) Q Er st := by
  cases r with
  | list q1 q2 q3 q4 =>
    rename_i o arr n xs bs₀
    have whole : Reads h₀ (.ref a) (.list xs) _ := .list q1 q2 q3 q4
    simp only [PyData.depth] at hu
    simp only [PyData.shown] at hQ hz
    obtain ⟨bs, rb, kb⟩ := reprAllK_any (pr := pr) (wo := wo) hn q4 (by simpa [tellable] using ht) fun t m => Nat.le_trans (listText_mem_le m) hz
    have notIn : a ∉ bs := not_mem_of_deeper whole (by simp only [PyData.depth]; omega) rb
    refine call_repr_slot (by omega) ⟨o, hk _ _ q1, q2⟩ F.slot_list_repr.toG ?_
    rcases arr with ⟨_ | ⟨y, l⟩⟩
    · cases (show ReadsAll h₀ [] xs _ from q4)
      simp only [PyData.shownAll, listText_nil] at hQ
      exact call_list_repr_empty ⟨o, hk _ _ q1, q2⟩ (hk _ _ q1) q3 ⟨_, _, rfl, hQ st.heap _ _ fun _ _ e => e⟩
    · exact call_list_reprK q1 q2 q3 notIn (by simpa using kb.length_eq) (fun i y e => kb.item i y (by simpa using e)) hg (fun b _ => Clear.nil b) (by show B.units + 1 + _ < _; omega) hk (fun h2 u tk q => ⟨_, _, rfl, hQ h2 u tk q⟩) hz
  | tuple q1 q2 q3 q4 =>
    rename_i o arr n xs
    have whole : Reads h₀ (.ref a) (.tuple xs) _ := .tuple q1 q2 q3 q4
    simp only [PyData.depth] at hu
    simp only [PyData.shown] at hQ hz
    obtain ⟨bs, rb, kb⟩ := reprAllK_any (pr := pr) (wo := wo) hn q4 (by simpa [tellable] using ht) fun t m => Nat.le_trans (tupleText_mem_le m) hz
    have notIn : a ∉ bs := not_mem_of_deeper whole (by simp only [PyData.depth]; omega) rb
    refine call_repr_slot (by omega) ⟨o, hk _ _ q1, q2⟩ F.slot_tuple_repr ?_
    exact call_tuple_reprK q1 q2 q3 notIn kb hg (fun b _ => Clear.nil b) (by show B.units + 1 + _ < _; omega) hk (fun h2 u tk q => ⟨_, _, rfl, hQ h2 u tk q⟩) hz
  | dict => simp [tellable] at ht
/-- repr of the empty dict -/
theorem repr_dict0 {a : Addr} {o : Obj} {n : Nat} {Q : Value → Shared → Prop} (q1 : st.heap.get? a = some o) (q2 : o.cls = .type "dict") (q3 : o.data = .dict #[] n) (hs : (a == sysModules) = false)
    (hg : B.guards = some []) (hu : B.units + 2 < cLine)
    (hQ : ∀ h2 u tk, (∀ b o, st.heap.get? b = some o → h2.get? b = some o) → Q (.str "{}" u) { st with heap := h2, toks := tk }) :
    wpAny (model pr wo) B (call (.builtin "repr") [.ref a]) Q Er st := by
  have r : Reads st.heap (.ref a) (.dict []) ([a] ++ []) := .dict (as := []) (bs := []) q1 q2 q3 .nil .nil
  refine repr_of_reads' (d := .dict []) r rfl (fun _ m => ?_) hg (by show B.units + (PyData.depth (.dict []) + 1) < _; simp only [PyData.depth, PyData.depthKv]; omega) (fun _ _ e => e) ?_ (by decide +kernel)
  · have e : sysModules = a := by simpa using m
    rw [e] at hs
    simp at hs
  · have e : PyData.shown (.dict []) = "{}" := by decide +kernel
    rw [e]
    exact hQ
end

section
variable {X : Cx}
/-- no limit of its own was put to the figures of ints -/
theorem digs {pins : List (Addr × Obj)} {σ : L2.St} {Hx : Hp} {st : Shared} (hn : X.base.NoDigits) (I : Inv X pins σ Hx st) : st.heap.NoDigits := hn.keeps I.bk
def rRepr (K : PySem.W.Frag) : List V → Hp → VK → Prop := fun xs Hx R => ∃ x, xs = [x] ∧
  ((∃ d, Dp K Hx x d ∧ tellable d = true ∧ d.depth ≤ 60 ∧ d.shown.length ≤ sizeLine ∧ R (.str d.shown) Hx) ∨ (∃ a, x = .ref a ∧ Hx a = some (.dK []) ∧ R (.str "{}") Hx))
theorem call_reprG (hn : X.base.NoDigits) (hg : X.A.guards = some []) {k : Nat} (hr : Room k X.A) : CallR X (.builtin "repr") (rRepr X.K) := by
  intro pins st σ Hx xs us R I rv h
  obtain ⟨x, rfl, h⟩ := h
  obtain ⟨u, rfl, rx⟩ : ∃ u, us = [u] ∧ RelV x u := by
    cases rv with
    | cons a b => cases b; exact ⟨_, rfl, a⟩
  have hu := hr.units
  rcases h with ⟨d, hd, ht, hdep, hz, q⟩ | ⟨a, rfl, ha, q⟩
  · cases x with
    | ref a =>
      obtain ⟨as, r⟩ := Dp.reads I d (.ref a) u hd rx
      obtain rfl : u = Value.ref a := rx
      exact repr_ref (digs hn I) r ht hz hg (by omega) (fun _ _ e => e) fun h2 u tk hk => ⟨.str _, Hx, I.kept (t' := tk) hk, ⟨_, rfl⟩, q⟩
    | int i =>
      obtain ⟨t, rfl⟩ := rx
      cases hd
      simp only [PyData.shown] at q
      exact int_repr (by omega) (digs hn I) (of_decide_eq_true (by simpa only [tellable] using ht)) ⟨.str _, Hx, I.tok _, ⟨_, rfl⟩, q⟩
    | str y =>
      obtain ⟨t, rfl⟩ := rx
      cases hd
      simp only [PyData.shown] at q hz
      exact PySem.P.repr_of_str ⟨.str _, Hx, I.tok _, ⟨_, rfl⟩, q⟩ hz
    | bl b =>
      obtain rfl : u = Value.bool b := rx
      cases hd
      simp only [PyData.shown] at q
      exact PySem.P.repr_of_bool ⟨.str _, Hx, I.tok _, ⟨_, rfl⟩, q⟩
    | non =>
      obtain rfl : u = Value.none := rx
      cases hd
      simp only [PyData.shown] at q
      exact PySem.P.repr_of_none ⟨.str _, Hx, I.tok _, ⟨_, rfl⟩, q⟩
    | byt b => cases hd
    | flt b => cases hd
    | ty b => cases hd
  · obtain rfl : u = Value.ref a := rx
    obtain ⟨_, hs, vs, kv, o, es, ep, e1, e2, e3, e4, e5, _⟩ := I.hok a _ ha
    cases kv
    have e6 : es = #[] := by
      cases es with
      | mk l => cases l with
        | nil => rfl
        | cons y l => cases e5
    subst e6
    exact repr_dict0 e1 e2.1 e3 hs hg (by omega) fun h2 u tk hk => ⟨.str _, Hx, I.kept (t' := tk) hk, ⟨_, rfl⟩, q⟩
end
end SG

/-! enumerate of a tuple. -/
namespace SG
open PySem PySem.Spec PyProof.Rows L2

set_option maxHeartbeats 1000000 in
theorem meets_enum1 {v : Value} {o : Obj} {Ho : Heap → Prop} (B : Begins v o Ho) :
    Meets (Builtin.«enumerate.__new__» ⟨[.type "enumerate", v], []⟩) (fun _ R st => Ho st.heap ∧
      R (.ok (.ret (.ref (st.heap.push o).objs.size))) { st with heap := (st.heap.push o).push { cls := .type "enumerate", data := .fields #[.none, .bool false, .ref st.heap.objs.size, rawInt 0, .none, .none] } }) :=
  .of_wp fun prog w A R st h => by
    obtain ⟨hp, g, d, tk, os⟩ := st
    obtain ⟨h1, h⟩ := h
    have hsub := sub_enumerate
    have it1 : ∀ {A' : Around} {E : Value → Shared → Prop} {Q : Value → Shared → Prop}, Q (.ref hp.objs.size) ⟨hp.push o, g, d, tk, os⟩ → wpAny (model prog w) A' (pyIter v) Q E ⟨hp, g, d, tk, os⟩ :=
      fun q => B.iter prog w _ _ ⟨hp, g, d, tk, os⟩ _ h1 q
    wp_walk using it1
    refine wpAny_stack_any fun stk => wpAny_pure ?_
    split
    · rename_i c _ _ _ _ _
      cases (c == Value.type "enumerate")
      · wp_walk using it1
        exact ⟨_, rfl, h⟩
      · wp_walk using it1
        exact ⟨_, rfl, h⟩
    · wp_walk using it1
      exact ⟨_, rfl, h⟩
section
variable {prog : Program} {w : World} {A : Around} {E : Value → Shared → Prop} {st : Shared}
theorem enum1_begins {v : Value} {o : Obj} {Ho : Heap → Prop} {Q : Value → Shared → Prop} (B : Begins v o Ho) (h1 : Ho st.heap)
    (h : ∀ h2, IsEnum h2 (st.heap.objs.size + 1) st.heap.objs.size 0 .none → h2.get? st.heap.objs.size = some o → h2.objs.size = st.heap.objs.size + 2 →
      (∀ b u, st.heap.get? b = some u → h2.get? b = some u) → Q (.ref (st.heap.objs.size + 1)) { st with heap := h2 }) :
    wpAny (model prog w) A (call (.type "enumerate") [v]) Q E st := by
  refine callType_new F.called_enumerate (by decide) (F.typeCall_enumerate_1 _) (F.newCall_enumerate_1 _) (fun obj => F.args_object_init_2 obj _) F.entry_enumerate_new (meets_enum1 B) ⟨h1, ?_⟩
  have hz : (st.heap.push o).objs.size = st.heap.objs.size + 1 := Heap.size_push ..
  show _ ∧ _
  rw [hz]
  have he : IsEnum ((st.heap.push o).push { cls := .type "enumerate", data := .fields #[.none, .bool false, .ref st.heap.objs.size, rawInt 0, .none, .none] }) (st.heap.objs.size + 1) st.heap.objs.size 0 .none := by
    have z := Heap.get?_push_size (st.heap.push o) (o := { cls := .type "enumerate", data := .fields #[.none, .bool false, .ref st.heap.objs.size, rawInt 0, .none, .none] }) rfl
    rw [hz] at z
    exact z
  exact ⟨⟨_, he, rfl⟩, h _ he (Heap.get?_push_of_some _ (Heap.get?_push_size _ B.free)) (by rw [Heap.size_push, hz]) fun b u x => Heap.get?_push_of_some _ (Heap.get?_push_of_some _ x)⟩
end

/-- the tuple at a, each item in a new pair -/
def IteT (K : PySem.W.Frag) (a : Addr) : It :=
  ⟨fun i Hx => ∃ (xs : List V) (x : V), SqT K Hx a xs ∧ xs[i]? = some x, fun i Hx v H2 => ∃ T x, v = .ref T ∧ Hx T = none ∧ H2 = upd Hx T (.tup [.int (i : Nat), x]) ∧ ∀ xs, SqT K Hx a xs → xs[i]? = some x, fun i Hx => ∃ xs : List V, SqT K Hx a xs ∧ xs.length ≤ i⟩
theorem turn_enumT {P : Program} {w : World} {K : PySem.W.Frag} {elts : List Expr} {kk : Nat} {tpos : Pos} (a e it : Addr) :
    Turn P w K (.Tuple elts kk tpos) (IteT K a) [e, it] e (fun i h => (∃ old, IsEnum h e it ((i : Nat) : Int) old) ∧ h.IsTupleIter it a i ∧ e ≠ it ∧ a ≠ it ∧ a ≠ e) where
  mem := by simp
  obj := fun i h q b hb => by
    obtain ⟨⟨old, he⟩, ⟨o, ho, hc, hd⟩, _⟩ := q
    rcases (show b = e ∨ b = it by simpa using hb) with z | z
    · rw [z]; exact ⟨_, he, fun v q => nomatch q⟩
    · rw [z]; exact ⟨o, ho, fun v q => by rw [hd] at q; cases q⟩
  keep := fun i h h2 q k => by
    obtain ⟨⟨old, he⟩, hi, hne⟩ := q
    exact ⟨⟨old, k e (by simp) _ he⟩, hi.at fun o q => k it (by simp) o q, hne⟩
  item := by
    intro X hP hw hK hc i pins st σ Hx E I hf q hg
    subst hP hw hK
    obtain ⟨⟨old, he⟩, hit, hne, n1, n2⟩ := q
    obtain ⟨xs, x, hq, hx⟩ := hg
    obtain ⟨its, rv, p, hz⟩ := I.tuple hq
    obtain ⟨u, hu, ru⟩ := rv.get hx
    have hel : e < st.heap.objs.size := Heap.lt_size he
    have hil : it < st.heap.objs.size := by obtain ⟨_, z, _⟩ := hit; exact Heap.lt_size z
    have hi : i < its.toArray.size := by
      have z := (List.getElem?_eq_some_iff.mp hu).1
      simpa using z
    refine wpAny_pyNext_enum_itemD (Draws.tuple (prog := X.prog) (w := X.w) (A := X.A.in1) (I.ok.hd hc) it a n1 its.toArray) he ⟨hit, p⟩ hi hne (by simp [hne, n2.symm]) fun y h1 tk hy ho hs1 hT hsz hk => ?_
    obtain rfl : y = u := by
      rw [show its.toArray[i]? = some u by simpa using hu] at hy
      exact (Option.some.inj hy).symm
    refine ⟨_, rfl, wpAny_letOwnedTupleGo_enum (s := { st with heap := h1, toks := tk + 1 }) ho fun h2 he2 sb => ?_⟩
    have hT2 : h2.get? st.heap.objs.size = some { cls := .type "tuple", data := .seq #[.int i tk, y] } := (sb.2 _ (Nat.ne_of_gt hel)).trans hT
    have new : ObjOk X.prog X.w (upd Hx st.heap.objs.size (.tup [.int (i : Nat), x])) h2 st.heap.objs.size (.tup [.int (i : Nat), x]) :=
      ⟨by show 2 ≤ sizeLine; decide, [.int i tk, y], .cons ⟨_, rfl⟩ (.cons ru .nil), ⟨_, hT2, rfl, _, rfl⟩⟩
    have I1 : L2.Inv X pins σ (upd Hx st.heap.objs.size (.tup [.int (i : Nat), x])) { st with heap := h2, toks := tk + 1 } :=
      I.turnedNew (ch := [e, it]) (fun b ob hb z => (sb.2 b (fun z => hb (by simp [z]))).trans (hk b ob (fun z => hb (by simp [z])) (fun z => hb (by simp [z])) z)) hf (Nat.le_refl _) new
    refine ⟨.ref st.heap.objs.size, _, I1, rfl, ⟨_, x, rfl, I.hok.fresh (Nat.le_refl _), rfl, fun ys hy => by rw [I.tuple_inj hy hq]; exact hx⟩, ⟨⟨y, ?_⟩, hs1.1.at fun o z => (sb.2 it (Ne.symm hne)).trans z, hne, n1, n2⟩, fun b hb => ?_⟩
    · rw [show ((i + 1 : Nat) : Int) = (i : Int) + 1 by omega]
      exact he2
    · have hb2 : b < st.heap.objs.size := by
        rcases (show b = e ∨ b = it by simpa using hb) with z | z
        · rw [z]; exact hel
        · rw [z]; exact hil
      rw [upd_ne (Nat.ne_of_lt hb2)]
      exact (hf b hb).1
  done := by
    intro X hP hw hK hc i pins st σ Hx E I hf q hg
    subst hP hw hK
    obtain ⟨⟨old, he⟩, hit, hne, n1, n2⟩ := q
    obtain ⟨xs, hq, hx⟩ := hg
    obtain ⟨its, rv, p, hz⟩ := I.tuple hq
    obtain ⟨f0, f1, f2, f3, f4, f5⟩ := hf it (by simp)
    have hl := rv.length
    have D : Draws X.prog X.w X.A.in1 it [it, a] i (fun _ _ => True) (fun j h => j = i ∧ h.IsTupleIter it a i ∧ h.IsTuple a its.toArray) :=
      { live := fun _ _ z => by obtain ⟨_, ⟨o, ho, _⟩, _⟩ := z; exact ⟨o, ho⟩
        frame := fun _ _ _ z hk => ⟨z.1, z.2.1.at fun o e => hk it (by simp) o e, z.2.2.at fun o e => hk a (by simp) o e⟩
        item := fun j s Q E hj z => absurd z.1 (Nat.ne_of_lt hj)
        done := fun s Q E z hE => wpAny_nextOf_tuple_end (I.ok.hd hc) z.2.1 z.2.2 (by simp; omega) hE }
    exact wpAny_pyNext_enum_endD D he ⟨rfl, hit, p⟩ fun h2 eb => ⟨rfl, I.turned (t' := st.toks) (fun b o hb q => eb b o hb q) f0 f1 f3 f4 f5⟩
  self := fun A i st Q E q h => by
    obtain ⟨⟨_, he⟩, _⟩ := q
    exact wpAny_pyIter_enum he h
def iEnumT (K : PySem.W.Frag) (ta : TA) : TI := fun σ Hx R => ta σ Hx fun vs H1 => ∃ a xs, vs = [.ref a] ∧ SqT K H1 a xs ∧ R (IteT K a) H1
theorem pi_enumT {X : Cx} {e : Expr} {ta : TA} {p pos tpos : Pos} {elts : List Expr} {kk : Nat} (hg : Gl X "enumerate") (hm : X.mg "enumerate" = none) (ha : PA X [e] ta) (hs : starEach [e] X.env = [(false, eval e X.env)] := by rfl) :
    PI X (.Tuple elts kk tpos) (.Call (.Name "enumerate" p) [e] [] pos) (iEnumT X.K ta) := by
  refine ⟨fun pins st σ Hx R I h => ?_⟩
  refine Call_ (ld_blt I hg hm boot_enumerate (PyProof.Rows.callWith_type1 (thn (ha.run pos pins st σ Hx _ I h) ?_) hs rfl))
  rintro us s1 ⟨vs, H1, I1, r1, a, xs, rfl, hq, q⟩
  obtain ⟨u, rfl, ru⟩ : ∃ u, us = [u] ∧ RelV (.ref a) u := by
    cases r1 with
    | cons x y => cases y; exact ⟨_, rfl, x⟩
  obtain rfl : u = Value.ref a := ru
  obtain ⟨its, rv, p2, hz⟩ := I1.tuple hq
  have al : a < s1.heap.objs.size := p2.lt
  refine enum1_begins (begins_tuple a its.toArray) p2 fun h2 he hit hsz hk => wpAny_pyIter_enum he ?_
  have I2 : L2.Inv X pins σ H1 { s1 with heap := h2 } := I1.kept (t' := s1.toks) hk
  refine ⟨s1.heap.objs.size + 1, [s1.heap.objs.size + 1, s1.heap.objs.size], _, _, H1, rfl, I2, turn_enumT a (s1.heap.objs.size + 1) s1.heap.objs.size,
    ⟨⟨.none, he⟩, ⟨_, hit, rfl, rfl⟩, Nat.succ_ne_self _, Nat.ne_of_lt al, Nat.ne_of_lt (Nat.lt_succ_of_lt al)⟩, fun b hb => ?_, q⟩
  have hle : s1.heap.objs.size ≤ b := by
    rcases (show b = s1.heap.objs.size + 1 ∨ b = s1.heap.objs.size by simpa using hb) with z | z
    · rw [z]; exact Nat.le_succ _
    · rw [z]; exact Nat.le_refl _
  exact I1.fpOk hle (I1.hok.fresh hle)
end SG

/-! The deck that laws draw from; what stays when it is drawn from. -/
namespace SG
open PySem PySem.Spec PyProof.Rows L2

abbrev kC : Key := Sum.inr ("cells" : Str)
abbrev kM : Key := Sum.inr ("mixed" : Str)
abbrev kD : Key := Sum.inr ("draws" : Str)
theorem kne1 : ¬ kC = kM := by decide +kernel
theorem kne2 : ¬ kC = kD := by decide +kernel
theorem kne3 : ¬ kM = kD := by decide +kernel
def deckO (l : Addr) (m n : Int) : List (Key × V) := [(kC, .ref l), (kM, .int m), (kD, .int n)]
theorem deck_cells (l : Addr) (m n : Int) : valV (deckO l m n) kC = some (.ref l) := valV_pos rfl
theorem deck_mixed (l : Addr) (m n : Int) : valV (deckO l m n) kM = some (.int m) := (valV_neg kne1).trans (valV_pos rfl)
theorem deck_draws (l : Addr) (m n : Int) : valV (deckO l m n) kD = some (.int n) := (valV_neg kne2).trans ((valV_neg kne3).trans (valV_pos rfl))
theorem deck_put (l : Addr) (m n k : Int) : putK (deckO l m n) kD (.int k) = deckO l m k := by
  have e : (decide (kD = kD)) = true := decide_eq_true rfl
  show (if (decide (kC = kD) || (decide (kM = kD) || (decide (kD = kD) || false))) = true then [if kC = kD then (kC, V.int k) else (kC, V.ref l), if kM = kD then (kM, V.int k) else (kM, V.int m), if kD = kD then (kD, V.int k) else (kD, V.int n)] else _) = _
  rw [decide_eq_false kne2, decide_eq_false kne3, e, if_neg kne2, if_neg kne3, if_pos rfl]
  rfl
theorem deck_made (l : Addr) (m n : Int) : mergeK [] (deckO l m n) = deckO l m n := by
  have e1 : putK ([] : List (Key × V)) kC (.ref l) = [(kC, .ref l)] := rfl
  have e2 : putK [(kC, V.ref l)] kM (.int m) = [(kC, .ref l), (kM, .int m)] := by
    show (if (decide (kC = kM) || false) = true then _ else [(kC, V.ref l)] ++ [(kM, V.int m)]) = _
    rw [decide_eq_false kne1]
    rfl
  have e3 : putK [(kC, V.ref l), (kM, V.int m)] kD (.int n) = deckO l m n := by
    show (if (decide (kC = kD) || (decide (kM = kD) || false)) = true then _ else [(kC, V.ref l), (kM, V.int m)] ++ [(kD, V.int n)]) = _
    rw [decide_eq_false kne2, decide_eq_false kne3]
    rfl
  show putK (putK (putK [] kC (.ref l)) kM (.int m)) kD (.int n) = _
  rw [e1, e2, e3]

/-- a deck stands at d, its cells at l; it was asked at most c times -/
def Deck (H : Hp) (d l : Addr) (c : Nat) : Prop :=
  ∃ (cs : List Int) (m n : Int), H d = some (.dK (deckO l m n)) ∧ H l = some (.lst (cs.map V.int)) ∧ (0 ≤ m ∧ m < 2147483648) ∧ (0 ≤ n ∧ n ≤ (c : Int)) ∧ cs.length ≤ 63
/-- all stays but the deck and its cells -/
def Kept (d l : Addr) (H H2 : Hp) : Prop := ∀ b o, H b = some o → b ≠ d → b ≠ l → H2 b = some o
theorem Kept.refl (d l : Addr) (H : Hp) : Kept d l H H := fun _ _ e _ _ => e
theorem Kept.trans {d l : Addr} {H H1 H2 : Hp} (a : Kept d l H H1) (b : Kept d l H1 H2) : Kept d l H H2 := fun c o e h1 h2 => b c o (a c o e h1 h2) h1 h2
theorem Kept.of {d l : Addr} {H H1 : Hp} (a : Same H H1) : Kept d l H H1 := fun c o e _ _ => a c o e
theorem Deck.mono {H : Hp} {d l : Addr} {c e : Nat} (D : Deck H d l c) (h : c ≤ e) : Deck H d l e := by
  obtain ⟨cs, m, n, h1, h2, h3, h4, h5⟩ := D
  exact ⟨cs, m, n, h1, h2, h3, ⟨h4.1, by omega⟩, h5⟩
theorem Deck.same {H H1 : Hp} {d l : Addr} {c : Nat} (D : Deck H d l c) (s : Same H H1) : Deck H1 d l c := by
  obtain ⟨cs, m, n, h1, h2, h3⟩ := D
  exact ⟨cs, m, n, s _ _ h1, s _ _ h2, h3⟩
theorem Deck.upd {H : Hp} {d l p : Addr} {c : Nat} {o : HO} (D : Deck H d l c) (hp : H p = none) : Deck (upd H p o) d l c := by
  obtain ⟨cs, m, n, h1, h2, h3⟩ := D
  exact ⟨cs, m, n, by rw [upd_ne (ne_of_none h1 hp)]; exact h1, by rw [upd_ne (ne_of_none h2 hp)]; exact h2, h3⟩
theorem same_new {H : Hp} {p : Addr} {o : HO} (h : H p = none) : Same H (upd H p o) := fun b x e => by
  rw [upd_ne (ne_of_none e h)]
  exact e
/-- tuples stay -/
theorem Kept.tup {K : PySem.W.Frag} {d l : Addr} {H H2 : Hp} {c : Nat} {a : Addr} {xs : List V} (k : Kept d l H H2) (D : Deck H d l c) (h : SqT K H a xs) : SqT K H2 a xs := by
  obtain ⟨cs, m, n, h1, h2, _⟩ := D
  rcases h with (h | ⟨o, h⟩) | h
  · exact .inl (.inl (k _ _ h (ne_of h h1 nofun) (ne_of h h2 nofun)))
  · exact .inl (.inr ⟨o, k _ _ h (ne_of h h1 nofun) (ne_of h h2 nofun)⟩)
  · exact .inr h
theorem sameT {K : PySem.W.Frag} {H H2 : Hp} {a : Addr} {xs : List V} (s : Same H H2) (h : SqT K H a xs) : SqT K H2 a xs := by
  rcases h with (h | ⟨o, h⟩) | h
  · exact .inl (.inl (s _ _ h))
  · exact .inl (.inr ⟨o, s _ _ h⟩)
  · exact .inr h
/-! ### ints as data -/
def dI (ns : List Int) : List PyData := ns.map PyData.int
theorem dpInts {K : PySem.W.Frag} {H : Hp} : ∀ ns : List Int, DpAll K H (ns.map V.int) (dI ns)
  | [] => .nil
  | n :: ns => .cons (.int n) (dpInts ns)
theorem layI : ∀ ns : List Int, PyData.canLayAll0 (dI ns) = true
  | [] => by simp [dI, PyData.canLayAll0]
  | n :: ns => by
    show PyData.canLayAll0 (PyData.int n :: dI ns) = true
    simp [PyData.canLayAll0, PyData.canLay0, layI ns]
theorem depI : ∀ ns : List Int, PyData.depthAll (dI ns) = 0
  | [] => by simp [dI, PyData.depthAll]
  | n :: ns => by
    show PyData.depthAll (PyData.int n :: dI ns) = 0
    simp [PyData.depthAll, PyData.depth, depI ns]
theorem shI (ns : List Int) : SeqAt.shaped (.list (dI ns)) = true := by
  simp [SeqAt.shaped, PyData.canLay0, PyData.depth, layI, depI]
theorem shTI (ns : List Int) : SeqAt.shaped (.tuple (dI ns)) = true := by
  simp [SeqAt.shaped, PyData.canLay0, PyData.depth, layI, depI]
theorem eqvI_nil : ∀ ns : List Int, PyData.eqv (.list (dI ns)) (.list []) = ns.isEmpty
  | [] => by simp [dI, PyData.eqv, PyData.eqvAll]
  | n :: ns => by
    show PyData.eqv (.list (PyData.int n :: dI ns)) (.list []) = false
    simp [PyData.eqv, PyData.eqvAll]
theorem dgCells {H : Hp} {d l : Addr} {m n : Int} (h : H d = some (.dK (deckO l m n))) : DGet H d (.str "cells") (some (.ref l)) := by
  have z := DGet.k (k := kC) h
  rw [deck_cells] at z
  exact z
theorem dgMixed {H : Hp} {d l : Addr} {m n : Int} (h : H d = some (.dK (deckO l m n))) : DGet H d (.str "mixed") (some (.int m)) := by
  have z := DGet.k (k := kM) h
  rw [deck_mixed] at z
  exact z
theorem dgDraws {H : Hp} {d l : Addr} {m n : Int} (h : H d = some (.dK (deckO l m n))) : DGet H d (.str "draws") (some (.int n)) := by
  have z := DGet.k (k := kD) h
  rw [deck_draws] at z
  exact z
theorem dpDraws {H : Hp} {d l : Addr} {m n : Int} (k : Int) (h : H d = some (.dK (deckO l m n))) : DPut H d (.str "draws") (.int k) (upd H d (.dK (deckO l m k))) := by
  have z := DPut.k (k := kD) (v := .int k) h (by show 3 < sizeLine; decide)
  rw [deck_put] at z
  exact z
theorem ifT {b : Bool} {A B : Prop} (h : b = true) (a : A) : if b = true then A else B := by
  rw [if_pos h]
  exact a
theorem ifF {b : Bool} {A B : Prop} (h : b = false) (a : B) : if b = true then A else B := by
  rw [h]
  exact iteF a
theorem mod_lo {a b : Int} (h : 0 < b) : 0 ≤ a % b := Int.emod_nonneg a (by omega)
theorem mod_hi {a b : Int} (h : 0 < b) : a % b < b := Int.emod_lt_of_pos a h
end SG

namespace SG
open PySem PySem.Spec PyProof.Rows L2

theorem Kept.lst {K : PySem.W.Frag} {d l : Addr} {H H2 : Hp} {c : Nat} {a : Addr} {xs : List V} (k : Kept d l H H2) (D : Deck H d l c) (hl : a ≠ l) (h : SqL K H a xs) : SqL K H2 a xs := by
  obtain ⟨cs, m, n, h1, h2, _⟩ := D
  rcases h with (h | ⟨o, h⟩) | h
  · exact .inl (.inl (k _ _ h (ne_of h h1 nofun) hl))
  · exact .inl (.inr ⟨o, k _ _ h (ne_of h h1 nofun) hl⟩)
  · exact .inr h
theorem Deck.ne {H : Hp} {d l p : Addr} {c : Nat} (D : Deck H d l c) (h : H p = none) : p ≠ d ∧ p ≠ l := by
  obtain ⟨cs, m, n, h1, h2, _⟩ := D
  exact ⟨(ne_of_none h1 h).symm, (ne_of_none h2 h).symm⟩
theorem wipe1 (σ : L2.St) (s : Nat) (x : Option V) : wipe ((wipe σ [s]).set s x) [s] = wipe σ [s] := by
  show (List.set (List.set (List.set σ s none) s x) s none) = List.set σ s none
  rw [List.set_set, List.set_set]
theorem yesI {A B : Hp → Prop} {σ : L2.St} {H : Hp} (h : A H) : tYes σ H (fun b H4 => if b = true then A H4 else B H4) := by
  show (if (true : Bool) = true then A H else B H)
  rw [if_pos rfl]
  exact h
/-- a list of ints that are drawn, turn by turn -/
theorem lc_draws {d l D : Addr} {c n s : Nat} {te : TE} {σ : L2.St} {H1 : Hp} {Qd : Hp → Prop} {B : Int → Prop} (D0 : Deck H1 d l c) (hD : H1 D = none) (hn : n ≤ 1000)
    (turn : ∀ (i : Nat) (H2 : Hp), i < n → Deck H2 d l (c + i) → Kept d l H1 H2 → ∀ R : VK, (∀ (x : Int) (H3 : Hp), B x → Deck H3 d l (c + i + 1) → Kept d l H2 H3 → R (.int x) H3) → te ((wipe σ [s]).set s (some (.int (0 + i)))) H2 R)
    (done : ∀ (xs : List Int) (H2 : Hp), xs.length = n → (∀ x ∈ xs, B x) → H2 D = some (.lst (xs.map V.int)) → Deck H2 d l (c + n) → Kept d l H1 H2 → Qd H2) :
    ∃ W : Nat → Nat → Hp → Prop, (∃ m, W 0 m (upd H1 D (.lst []))) ∧ ∀ i m H, W i m H →
      ((Itr 0 n).stop i H ∧ Qd H) ∨ ((Itr 0 n).go i H ∧ ∃ Nx : Hp → Prop, (∀ H2, Nx H2 → ∃ m2, m2 < m ∧ W (i + 1) m2 H2) ∧ ∀ x H2, (Itr 0 n).yld i H x H2 → gName s x (wipe σ [s]) H2 fun σ2 H3 => wipe σ2 [s] = wipe σ [s] ∧ tYes σ2 H3 fun b H4 =>
        if b = true then te σ2 H4 fun y H5 => ∃ acc, H5 D = some (.lst acc) ∧ acc.length < sizeLine ∧ Nx (upd H5 D (.lst (acc ++ [y]))) else Nx H4) := by
  obtain ⟨nd, nl⟩ := D0.ne hD
  refine lc_range (fun i H2 => ∃ xs : List Int, xs.length = i ∧ (∀ x ∈ xs, B x) ∧ H2 D = some (.lst (xs.map V.int)) ∧ Deck H2 d l (c + i) ∧ Kept d l H1 H2) ?_ ?_ ?_
  · exact ⟨[], rfl, (fun _ h => absurd h List.not_mem_nil), upd_same, D0.upd hD, .of (same_new hD)⟩
  · rintro i H2 hi ⟨xs, hx, hB, hD2, D2, k2⟩
    refine ⟨wipe1 _ _ _, ?_⟩
    refine yesI ?_
    refine turn i H2 hi D2 k2 _ fun x H3 hb D3 k3 => ⟨xs.map V.int, k3 _ _ hD2 nd nl, ?_, xs ++ [x], by simp [hx], fun y hy => ?_, ?_, ?_, ?_⟩
    · rw [List.length_map, hx]
      exact small1000 (by omega)
    · rcases List.mem_append.mp hy with h | h
      · exact hB y h
      · rw [List.mem_singleton.mp h]; exact hb
    · rw [upd_same, List.map_append]
      rfl
    · obtain ⟨cs, m, k, h1, h2, h3⟩ := D3
      exact ⟨cs, m, k, by rw [upd_ne nd.symm]; exact h1, by rw [upd_ne nl.symm]; exact h2, h3⟩
    · intro b o e h1 h2
      rw [upd_ne (ne_of_none e hD)]
      exact k3 _ _ (k2 _ _ e h1 h2) h1 h2
  · rintro H2 ⟨xs, hx, hB, hD2, D2, k2⟩
    exact done xs H2 hx hB hD2 D2 k2
end SG

namespace SG
open PySem PySem.Spec PyProof.Rows L2

/-- a comprehension over enumerate of a tuple -/
theorem lc_enumT {K : PySem.W.Frag} {a D : Addr} {xs : List V} {g : TG} {tt : TT} {te : TE} {vs : List Nat} {σ : L2.St} {H1 : Hp} {Qd : Hp → Prop} (Pv : Nat → Hp → Prop) (h0 : Pv 0 (upd H1 D (.lst []))) (hl : ∀ i H, i ≤ xs.length → Pv i H → SqT K H a xs)
    (hs : ∀ (i : Nat) (x : V) (H : Hp) (T : Addr), xs[i]? = some x → Pv i H → H T = none → g (.ref T) (wipe σ vs) (upd H T (.tup [.int (i : Nat), x])) fun σ2 H2 => wipe σ2 vs = wipe σ vs ∧ tt σ2 H2 fun b H3 =>
      if b = true then te σ2 H3 fun y H4 => ∃ acc, H4 D = some (.lst acc) ∧ acc.length < sizeLine ∧ Pv (i + 1) (upd H4 D (.lst (acc ++ [y]))) else Pv (i + 1) H3) (hd : ∀ H, Pv xs.length H → Qd H) :
    ∃ W : Nat → Nat → Hp → Prop, (∃ m, W 0 m (upd H1 D (.lst []))) ∧ ∀ i m H, W i m H →
      ((IteT K a).stop i H ∧ Qd H) ∨ ((IteT K a).go i H ∧ ∃ Nx : Hp → Prop, (∀ H2, Nx H2 → ∃ m2, m2 < m ∧ W (i + 1) m2 H2) ∧ ∀ x H2, (IteT K a).yld i H x H2 → g x (wipe σ vs) H2 fun σ2 H3 => wipe σ2 vs = wipe σ vs ∧ tt σ2 H3 fun b H4 =>
        if b = true then te σ2 H4 fun y H5 => ∃ acc, H5 D = some (.lst acc) ∧ acc.length < sizeLine ∧ Nx (upd H5 D (.lst (acc ++ [y]))) else Nx H4) := by
  refine ⟨fun i m H => m = xs.length - i ∧ i ≤ xs.length ∧ Pv i H, ⟨xs.length, by simp, Nat.zero_le _, h0⟩, ?_⟩
  rintro i m H ⟨rfl, hi, p⟩
  have q := hl i H hi p
  rcases Nat.lt_or_eq_of_le hi with hlt | rfl
  · refine .inr ⟨⟨xs, xs[i], q, by simp [hlt]⟩, Pv (i + 1), fun H2 p2 => ⟨xs.length - (i + 1), by omega, rfl, hlt, p2⟩, ?_⟩
    rintro x H2 ⟨T, x, rfl, hT, rfl, hx⟩
    exact hs i x H T (hx xs q) p hT
  · exact .inl ⟨⟨xs, q, Nat.le_refl _⟩, hd H p⟩
theorem wipe2 (σ : L2.St) (s1 s2 : Nat) (x y : Option V) : wipe (((wipe σ [s1, s2]).set s1 x).set s2 y) [s1, s2] = wipe σ [s1, s2] := by
  show List.set (List.set (List.set (List.set (List.set (List.set σ s2 none) s1 none) s1 x) s2 y) s2 none) s1 none = List.set (List.set σ s2 none) s1 none
  by_cases e : s1 = s2
  · subst e
    simp [List.set_set]
  · have z1 : List.set (List.set (List.set (List.set σ s2 none) s1 none) s1 x) s2 y = List.set (List.set (List.set σ s2 none) s1 x) s2 y := by rw [List.set_set]
    rw [z1]
    refine List.ext_getElem? fun i => ?_
    simp only [List.getElem?_set, List.length_set]
    split <;> split <;> rfl
  -- rw [List.set_set, List.set_comm x none e, List.set_set, List.set_comm none none (Ne.symm e), List.set_set]
theorem same_upd_of {H H2 : Hp} {p : Addr} {o : HO} (s : Same H H2) (h : H p = none) : Same H (upd H2 p o) := fun b x e => by
  rw [upd_ne (ne_of_none e h)]
  exact s _ _ e
/-- .. whose items are told ahead, and that makes new objects alone -/
theorem lc_enumS {K : PySem.W.Frag} {a D : Addr} {xs ys : List V} {te : TE} {s1 s2 : Nat} {σ : L2.St} {H1 : Hp} {Qd : Hp → Prop} (hn : xs.length ≤ 1000) (hD : H1 D = none) (hS : SqT K H1 a xs) (hy : ys.length = xs.length)
    (turn : ∀ (i : Nat) (x y : V) (H2 : Hp), xs[i]? = some x → ys[i]? = some y → Same H1 H2 → ∀ R : VK, (∀ H3, Same H2 H3 → R y H3) → te (((wipe σ [s1, s2]).set s1 (some (.int (i : Nat)))).set s2 (some x)) H2 R)
    (done : ∀ H2, Same H1 H2 → H2 D = some (.lst ys) → Qd H2) :
    ∃ W : Nat → Nat → Hp → Prop, (∃ m, W 0 m (upd H1 D (.lst []))) ∧ ∀ i m H, W i m H →
      ((IteT K a).stop i H ∧ Qd H) ∨ ((IteT K a).go i H ∧ ∃ Nx : Hp → Prop, (∀ H2, Nx H2 → ∃ m2, m2 < m ∧ W (i + 1) m2 H2) ∧ ∀ x H2, (IteT K a).yld i H x H2 → gTup K 2 (gCons (gName s1) (gCons (gName s2) gNil)) x (wipe σ [s1, s2]) H2 fun σ2 H3 => wipe σ2 [s1, s2] = wipe σ [s1, s2] ∧ tYes σ2 H3 fun b H4 =>
        if b = true then te σ2 H4 fun y H5 => ∃ acc, H5 D = some (.lst acc) ∧ acc.length < sizeLine ∧ Nx (upd H5 D (.lst (acc ++ [y]))) else Nx H4) := by
  refine lc_enumT (xs := xs) (fun i H2 => Same H1 H2 ∧ H2 D = some (.lst (ys.take i))) ⟨same_new hD, by rw [upd_same, List.take_zero]⟩ (fun i H2 _ p => sameT p.1 hS) ?_ ?_
  · rintro i x H2 T hx ⟨s, h2⟩ hT
    have hi : i < ys.length := by rw [hy]; exact (List.getElem?_eq_some_iff.mp hx).1
    have hyi : ys[i]? = some ys[i] := List.getElem?_eq_getElem hi
    refine ⟨T, _, rfl, .inl (.inl upd_same), rfl, _, _, rfl, _, _, rfl, rfl, wipe2 _ _ _ _ _, ?_⟩
    refine yesI ?_
    have s1 : Same H1 (upd H2 T (.tup [.int (i : Nat), x])) := s.trans (same_new hT)
    have hD2 : (upd H2 T (.tup [.int (i : Nat), x])) D = some (.lst (ys.take i)) := same_new hT _ _ h2
    refine turn i x _ _ hx hyi s1 _ fun H3 s3 => ⟨ys.take i, s3 _ _ hD2, ?_, same_upd_of (s1.trans s3) hD, ?_⟩
    · rw [List.length_take]
      exact small1000 (by omega)
    · rw [upd_same, List.take_add_one, hyi]
      rfl
  · rintro H2 ⟨s, h2⟩
    refine done H2 s ?_
    rw [h2, ← hy, List.take_length]
end SG

namespace SG
open PySem PySem.Spec PyProof.Rows L2
/-- a comprehension over a tuple, whose items are told ahead, and that makes new objects alone -/
theorem lc_tupS {K : PySem.W.Frag} {a D : Addr} {xs ys : List V} {te : TE} {s : Nat} {σ : L2.St} {H1 : Hp} {Qd : Hp → Prop} (hn : xs.length ≤ 1000) (hD : H1 D = none) (hS : SqT K H1 a xs) (hy : ys.length = xs.length)
    (turn : ∀ (i : Nat) (x y : V) (H2 : Hp), xs[i]? = some x → ys[i]? = some y → Same H1 H2 → ∀ R : VK, (∀ H3, Same H2 H3 → R y H3) → te ((wipe σ [s]).set s (some x)) H2 R)
    (done : ∀ H2, Same H1 H2 → H2 D = some (.lst ys) → Qd H2) :
    ∃ W : Nat → Nat → Hp → Prop, (∃ m, W 0 m (upd H1 D (.lst []))) ∧ ∀ i m H, W i m H →
      ((Itt K a).stop i H ∧ Qd H) ∨ ((Itt K a).go i H ∧ ∃ Nx : Hp → Prop, (∀ H2, Nx H2 → ∃ m2, m2 < m ∧ W (i + 1) m2 H2) ∧ ∀ x H2, (Itt K a).yld i H x H2 → gName s x (wipe σ [s]) H2 fun σ2 H3 => wipe σ2 [s] = wipe σ [s] ∧ tYes σ2 H3 fun b H4 =>
        if b = true then te σ2 H4 fun y H5 => ∃ acc, H5 D = some (.lst acc) ∧ acc.length < sizeLine ∧ Nx (upd H5 D (.lst (acc ++ [y]))) else Nx H4) := by
  refine lc_tup (xs := xs) (fun i H2 => Same H1 H2 ∧ H2 D = some (.lst (ys.take i))) ⟨same_new hD, by rw [upd_same, List.take_zero]⟩ (fun i H2 _ p => sameT p.1 hS) ?_ ?_
  · rintro i x H2 hx ⟨sm, h2⟩
    have hi : i < ys.length := by rw [hy]; exact (List.getElem?_eq_some_iff.mp hx).1
    have hyi : ys[i]? = some ys[i] := List.getElem?_eq_getElem hi
    refine ⟨wipe1 _ _ _, ?_⟩
    refine yesI ?_
    refine turn i x _ _ hx hyi sm _ fun H3 s3 => ⟨ys.take i, s3 _ _ h2, ?_, same_upd_of (sm.trans s3) hD, ?_⟩
    · rw [List.length_take]
      exact small1000 (by omega)
    · rw [upd_same, List.take_add_one, hyi]
      rfl
  · rintro H2 ⟨sm, h2⟩
    refine done H2 sm ?_
    rw [h2, ← hy, List.take_length]
/-- the same over a list -/
theorem lc_listS {K : PySem.W.Frag} {a D : Addr} {xs ys : List V} {te : TE} {s : Nat} {σ : L2.St} {H1 : Hp} {Qd : Hp → Prop} (hn : xs.length ≤ 1000) (hD : H1 D = none) (hS : SqL K H1 a xs) (hy : ys.length = xs.length)
    (turn : ∀ (i : Nat) (x y : V) (H2 : Hp), xs[i]? = some x → ys[i]? = some y → Same H1 H2 → ∀ R : VK, (∀ H3, Same H2 H3 → R y H3) → te ((wipe σ [s]).set s (some x)) H2 R)
    (done : ∀ H2, Same H1 H2 → H2 D = some (.lst ys) → Qd H2) :
    ∃ W : Nat → Nat → Hp → Prop, (∃ m, W 0 m (upd H1 D (.lst []))) ∧ ∀ i m H, W i m H →
      ((Itl K a).stop i H ∧ Qd H) ∨ ((Itl K a).go i H ∧ ∃ Nx : Hp → Prop, (∀ H2, Nx H2 → ∃ m2, m2 < m ∧ W (i + 1) m2 H2) ∧ ∀ x H2, (Itl K a).yld i H x H2 → gName s x (wipe σ [s]) H2 fun σ2 H3 => wipe σ2 [s] = wipe σ [s] ∧ tYes σ2 H3 fun b H4 =>
        if b = true then te σ2 H4 fun y H5 => ∃ acc, H5 D = some (.lst acc) ∧ acc.length < sizeLine ∧ Nx (upd H5 D (.lst (acc ++ [y]))) else Nx H4) := by
  refine lc_list (xs := xs) (fun i H2 => Same H1 H2 ∧ H2 D = some (.lst (ys.take i))) ⟨same_new hD, by rw [upd_same, List.take_zero]⟩ (fun i H2 _ p => p.1.seq hS) ?_ ?_
  · rintro i x H2 hx ⟨sm, h2⟩
    have hi : i < ys.length := by rw [hy]; exact (List.getElem?_eq_some_iff.mp hx).1
    have hyi : ys[i]? = some ys[i] := List.getElem?_eq_getElem hi
    refine ⟨wipe1 _ _ _, ?_⟩
    refine yesI ?_
    refine turn i x _ _ hx hyi sm _ fun H3 s3 => ⟨ys.take i, s3 _ _ h2, ?_, same_upd_of (sm.trans s3) hD, ?_⟩
    · rw [List.length_take]
      exact small1000 (by omega)
    · rw [upd_same, List.take_add_one, hyi]
      rfl
  · rintro H2 ⟨sm, h2⟩
    refine done H2 sm ?_
    rw [h2, ← hy, List.take_length]
/-- the same over a list, its target a pair -/
theorem lc_listP {K : PySem.W.Frag} {a D : Addr} {xs ys : List V} {te : TE} {s1 s2 : Nat} {σ : L2.St} {H1 : Hp} {Qd : Hp → Prop} (hn : xs.length ≤ 1000) (hD : H1 D = none) (hS : SqL K H1 a xs) (hy : ys.length = xs.length)
    (turn : ∀ (i : Nat) (x y : V) (H2 : Hp), xs[i]? = some x → ys[i]? = some y → Same H1 H2 → ∃ p u v, x = .ref p ∧ SqT K H2 p [u, v] ∧ ∀ R : VK, (∀ H3, Same H2 H3 → R y H3) → te (((wipe σ [s1, s2]).set s1 (some u)).set s2 (some v)) H2 R)
    (done : ∀ H2, Same H1 H2 → H2 D = some (.lst ys) → Qd H2) :
    ∃ W : Nat → Nat → Hp → Prop, (∃ m, W 0 m (upd H1 D (.lst []))) ∧ ∀ i m H, W i m H →
      ((Itl K a).stop i H ∧ Qd H) ∨ ((Itl K a).go i H ∧ ∃ Nx : Hp → Prop, (∀ H2, Nx H2 → ∃ m2, m2 < m ∧ W (i + 1) m2 H2) ∧ ∀ x H2, (Itl K a).yld i H x H2 → gTup K 2 (gCons (gName s1) (gCons (gName s2) gNil)) x (wipe σ [s1, s2]) H2 fun σ2 H3 => wipe σ2 [s1, s2] = wipe σ [s1, s2] ∧ tYes σ2 H3 fun b H4 =>
        if b = true then te σ2 H4 fun y H5 => ∃ acc, H5 D = some (.lst acc) ∧ acc.length < sizeLine ∧ Nx (upd H5 D (.lst (acc ++ [y]))) else Nx H4) := by
  refine lc_list (xs := xs) (fun i H2 => Same H1 H2 ∧ H2 D = some (.lst (ys.take i))) ⟨same_new hD, by rw [upd_same, List.take_zero]⟩ (fun i H2 _ p => p.1.seq hS) ?_ ?_
  · rintro i x H2 hx ⟨sm, h2⟩
    have hi : i < ys.length := by rw [hy]; exact (List.getElem?_eq_some_iff.mp hx).1
    have hyi : ys[i]? = some ys[i] := List.getElem?_eq_getElem hi
    obtain ⟨p, u, v, rfl, hp, tn⟩ := turn i x _ _ hx hyi sm
    refine ⟨p, _, rfl, hp, rfl, _, _, rfl, _, _, rfl, rfl, wipe2 _ _ _ _ _, ?_⟩
    refine yesI ?_
    refine tn _ fun H3 s3 => ⟨ys.take i, s3 _ _ h2, ?_, same_upd_of (sm.trans s3) hD, ?_⟩
    · rw [List.length_take]
      exact small1000 (by omega)
    · rw [upd_same, List.take_add_one, hyi]
      rfl
  · rintro H2 ⟨sm, h2⟩
    refine done H2 sm ?_
    rw [h2, ← hy, List.take_length]
end SG

/-! The rules that speak of the written part, with it as a letter: so they serve in a comprehension too. -/
namespace SG
open PySem PySem.Spec PyProof.Rows L2
section
variable {X : Cx} {K : PySem.W.Frag}
def rLenS (K : PySem.W.Frag) : List V → Hp → VK → Prop := fun xs H Q => ∃ p ys, xs = [.ref p] ∧ (SqL K H p ys ∨ SqT K H p ys) ∧ Q (.int ys.length) H
def rListOf (K : PySem.W.Frag) : List V → Hp → VK → Prop := fun xs H Q => ∃ p ys, xs = [.ref p] ∧ (SqL K H p ys ∨ SqT K H p ys) ∧ ∀ l, H l = none → Q (.ref l) (upd H l (.lst ys))
def rTupOf (K : PySem.W.Frag) : List V → Hp → VK → Prop := fun xs H Q => ∃ p ys, xs = [.ref p] ∧ ((SqL K H p ys ∧ ∀ l, H l = none → Q (.ref l) (upd H l (.tup ys))) ∨ (SqT K H p ys ∧ Q (.ref p) H))
theorem k_len (e : X.K = K := by rfl) : CallR X (.builtin "len") (rLenS K) := e ▸ call_len_seq
theorem k_listOf (e : X.K = K := by rfl) : CallR X (.type "list") (rListOf K) := e ▸ call_list_of
theorem k_tupOf (e : X.K = K := by rfl) : CallR X (.type "tuple") (rTupOf K) := e ▸ call_tuple_of
theorem k_sum (hc : X.calm = true) (e : X.K = K := by rfl) : CallR X (.builtin "sum") (rSum K) := e ▸ cr_sum hc
theorem k_all (hc : X.calm = true) (e : X.K = K := by rfl) : CallR X (.builtin "all") (rAll K) := e ▸ cr_all hc
theorem k_any (hc : X.calm = true) (e : X.K = K := by rfl) : CallR X (.builtin "any") (rAny K) := e ▸ cr_any hc
theorem k_isi (e : X.K = K := by rfl) : CallR X (.builtin "isinstance") (rIsi K) := e ▸ call_isi
theorem k_repr {k : Nat} (hn : X.base.NoDigits) (hg : X.A.guards = some []) (hr : Room k X.A) (e : X.K = K := by rfl) : CallR X (.builtin "repr") (rRepr K) := e ▸ call_reprG hn hg hr
theorem k_ixL (e : X.K = K := by rfl) : IxR X (rIxL K) := e ▸ ix_list
theorem k_ixT (e : X.K = K := by rfl) : IxR X (rIxT K) := e ▸ ix_tup
theorem k_ix (e : X.K = K := by rfl) : IxR X (rIx K) := e ▸ ix_seq
theorem k_slL (e : X.K = K := by rfl) : SlR X (rSlL K) := e ▸ sl_list
theorem k_slT (e : X.K = K := by rfl) : SlR X (rSlA K) := e ▸ sl_tupA
theorem k_catT (e : X.K = K := by rfl) : OpR X (binaryOp .Add) (rCatA K) := e ▸ op_catA
theorem k_eqD (hu : X.A.units + 64 < cLine) (e : X.K = K := by rfl) : OpR X (compareOp .Eq) (rEqD K) := e ▸ op_eqD hu
theorem k_neD (hu : X.A.units + 64 < cLine) (e : X.K = K := by rfl) : OpR X (compareOp .NotEq) (rNeD K) := e ▸ op_neD hu
theorem k_rev {x : Expr} {k} {p1 p2 p3 pos : Pos} {te : TE} (he : PE X x te) (e : X.K = K := by rfl) : PE X (.Subscript x (.Slice none none (some (.UnaryOp .USub (.Constant (.int 1) k p1) p2)) p3) pos) (tRevL K te) := e ▸ pe_revL he
theorem k_tg {es : List Expr} {k : Nat} {t : TGs} {n : Nat} {pos : Pos} (hc : X.calm = true) (h : PGs X es t) (hn : (assignEach es X.env).length = n := by rfl) (hst : (assignEach es X.env).findIdx? (·.1) = none := by rfl) (e : X.K = K := by rfl) : PG X (.Tuple es k pos) (gTup K n t) := e ▸ pg_tup hc h hn hst
theorem k_enumT {x : Expr} {ta : TA} {p pos tpos : Pos} {elts : List Expr} {kk : Nat} (hg : Gl X "enumerate") (hm : X.mg "enumerate" = none) (ha : PA X [x] ta) (hs : starEach [x] X.env = [(false, eval x X.env)] := by rfl) (e : X.K = K := by rfl) :
    PI X (.Tuple elts kk tpos) (.Call (.Name "enumerate" p) [x] [] pos) (iEnumT K ta) := e ▸ pi_enumT hg hm ha hs
theorem k_enum {x : Expr} {ta : TA} {p pos tpos : Pos} {elts : List Expr} {kk : Nat} (hg : Gl X "enumerate") (hm : X.mg "enumerate" = none) (ha : PA X [x] ta) (hs : starEach [x] X.env = [(false, eval x X.env)] := by rfl) (e : X.K = K := by rfl) :
    PI X (.Tuple elts kk tpos) (.Call (.Name "enumerate" p) [x] [] pos) (iEnum K ta) := e ▸ pi_enum hg hm ha hs
end
end SG

/-! Data at any depth, and the empty dict: its kind, lengths, items. -/
namespace SG
open PySem PySem.Spec PyProof.Rows L2
/-- data, or the empty dict -/
def Dq (K : PySem.W.Frag) (H : Hp) (x : V) (d : PyData) : Prop := Dp K H x d ∨ (d = .dict [] ∧ ∃ a, x = .ref a ∧ H a = some (.dK []))
def kindOf : PyData → String
  | .none => "NoneType"
  | .bool _ => "bool"
  | .int _ => "int"
  | .str _ => "str"
  | .list _ => "list"
  | .tuple _ => "tuple"
  | .dict _ => "dict"
section
variable {K : PySem.W.Frag} {H H2 : Hp} {x : V} {d : PyData}
theorem dp_ty (h : Dp K H x d) : TyX K H x (.type (kindOf d)) := by
  cases h with
  | non => exact .base .non
  | bl b => exact .base (.bl b)
  | int i => exact .base (.int i)
  | str s => exact .base (.str s)
  | lst s _ =>
    rcases s with (s | ⟨o, s⟩) | ⟨o, vs, n, s, c, _⟩
    · exact .base (.lst s)
    · exact .base (.frz s)
    · exact .kList s c
  | tup s _ =>
    rcases s with (s | ⟨o, s⟩) | ⟨o, vs, n, s, c, _⟩
    · exact .base (.tup s)
    · exact .fTuple s
    · exact .kTuple s c
theorem dq_ty (h : Dq K H x d) : TyX K H x (.type (kindOf d)) := by
  rcases h with h | ⟨rfl, a, rfl, h⟩
  · exact dp_ty h
  · exact .base (.dK h)
mutual
theorem dp_same (s : Same H H2) : ∀ {x : V} {d : PyData}, Dp K H x d → Dp K H2 x d
  | _, _, .non => .non
  | _, _, .bl b => .bl b
  | _, _, .int i => .int i
  | _, _, .str t => .str t
  | _, _, .lst q a => .lst (s.seq q) (dpA_same s a)
  | _, _, .tup q a => .tup (sameT s q) (dpA_same s a)
theorem dpA_same (s : Same H H2) : ∀ {xs : List V} {ds : List PyData}, DpAll K H xs ds → DpAll K H2 xs ds
  | _, _, .nil => .nil
  | _, _, .cons a b => .cons (dp_same s a) (dpA_same s b)
end
theorem dq_same (s : Same H H2) (h : Dq K H x d) : Dq K H2 x d := by
  rcases h with h | ⟨e, a, e2, h⟩
  · exact .inl (dp_same s h)
  · exact .inr ⟨e, a, e2, s _ _ h⟩
theorem dpA_len : ∀ {xs : List V} {ds : List PyData}, DpAll K H xs ds → xs.length = ds.length
  | _, _, .nil => rfl
  | _, _, .cons _ b => congrArg (· + 1) (dpA_len b)
theorem dpA_get : ∀ {xs : List V} {ds : List PyData} {i : Nat} {x : V}, DpAll K H xs ds → xs[i]? = some x → ∃ d, ds[i]? = some d ∧ Dp K H x d
  | _, _, _, _, .nil, e => by simp at e
  | _, _, 0, _, .cons a b, e => by
    simp at e
    subst e
    exact ⟨_, rfl, a⟩
  | _, _, i + 1, x, .cons a b, e => by
    obtain ⟨d, h1, h2⟩ := dpA_get (i := i) (x := x) b (by simpa using e)
    exact ⟨d, by simpa using h1, h2⟩
theorem dpA_app : ∀ {xs ys : List V} {ds es : List PyData}, DpAll K H xs ds → DpAll K H ys es → DpAll K H (xs ++ ys) (ds ++ es)
  | _, _, _, _, .nil, h => h
  | _, _, _, _, .cons a b, h => .cons a (dpA_app b h)
/-- what is no tuple has no tuple's kind -/
theorem dq_tuple {ds : List PyData} (h : Dq K H x (.tuple ds)) : ∃ a xs, x = .ref a ∧ SqT K H a xs ∧ DpAll K H xs ds := by
  rcases h with h | ⟨e, _⟩
  · cases h with
    | tup q a => exact ⟨_, _, rfl, q, a⟩
  · cases e
def isTup : PyData → Bool
  | .tuple _ => true
  | _ => false
def isInt : PyData → Bool
  | .int _ => true
  | _ => false
theorem isi_tuple (h : Dq K H x d) : PySem.W.kitOne K (.type (kindOf d)) (.type "tuple") = some (isTup d) := by
  cases d with
  | none => exact kit_ty (show kitB "NoneType" "tuple" = some false by decide +kernel)
  | bool _ => exact kit_ty (show kitB "bool" "tuple" = some false by decide +kernel)
  | int _ => exact kit_ty (show kitB "int" "tuple" = some false by decide +kernel)
  | str _ => exact kit_ty (show kitB "str" "tuple" = some false by decide +kernel)
  | list _ => exact kit_ty (show kitB "list" "tuple" = some false by decide +kernel)
  | tuple _ => exact kit_ty (show kitB "tuple" "tuple" = some true by decide +kernel)
  | dict _ => exact kit_ty (show kitB "dict" "tuple" = some false by decide +kernel)
def isIntLike : PyData → Bool
  | .int _ => true
  | .bool _ => true
  | _ => false
def isBool : PyData → Bool
  | .bool _ => true
  | _ => false
theorem isi_int (h : Dq K H x d) : PySem.W.kitOne K (.type (kindOf d)) (.type "int") = some (isIntLike d) := by
  cases d with
  | none => exact kit_ty (show kitB "NoneType" "int" = some false by decide +kernel)
  | bool _ => exact kit_ty (show kitB "bool" "int" = some true by decide +kernel)
  | int _ => exact kit_ty (show kitB "int" "int" = some true by decide +kernel)
  | str _ => exact kit_ty (show kitB "str" "int" = some false by decide +kernel)
  | list _ => exact kit_ty (show kitB "list" "int" = some false by decide +kernel)
  | tuple _ => exact kit_ty (show kitB "tuple" "int" = some false by decide +kernel)
  | dict _ => exact kit_ty (show kitB "dict" "int" = some false by decide +kernel)
theorem isi_bool (h : Dq K H x d) : PySem.W.kitOne K (.type (kindOf d)) (.type "bool") = some (isBool d) := by
  cases d with
  | none => exact kit_ty (show kitB "NoneType" "bool" = some false by decide +kernel)
  | bool _ => exact kit_ty (show kitB "bool" "bool" = some true by decide +kernel)
  | int _ => exact kit_ty (show kitB "int" "bool" = some false by decide +kernel)
  | str _ => exact kit_ty (show kitB "str" "bool" = some false by decide +kernel)
  | list _ => exact kit_ty (show kitB "list" "bool" = some false by decide +kernel)
  | tuple _ => exact kit_ty (show kitB "tuple" "bool" = some false by decide +kernel)
  | dict _ => exact kit_ty (show kitB "dict" "bool" = some false by decide +kernel)
end
/-! ### two tuples put together, a slice of a tuple: whatever object it is -/
theorem cat3 {K : PySem.W.Frag} {C : V → Hp → Prop} {H : Hp} {a b : Addr} {xs ys : List V} (hA : SqT K H a xs) (hB : SqT K H b ys) (h : ∀ (x : Addr) (H3 : Hp), Same H H3 → SqT K H3 x (xs ++ ys) → C (.ref x) H3) :
    (xs = [] → C (.ref b) H) ∧ (xs ≠ [] → ys = [] → C (.ref a) H) ∧ (xs ≠ [] → ys ≠ [] → ∀ p, H p = none → C (.ref p) (upd H p (.tup (xs ++ ys)))) := by
  refine ⟨fun e => ?_, fun _ e => ?_, fun _ _ p np => h p _ (same_new np) (.inl (.inl upd_same))⟩
  · subst e
    exact h b H (Same.refl H) hB
  · subst e
    refine h a H (Same.refl H) ?_
    rw [List.append_nil]
    exact hA
def rCatU (K : PySem.W.Frag) : R2 := fun x y H Q => ∃ a b xs ys, x = .ref a ∧ y = .ref b ∧ SqT K H a xs ∧ SqT K H b ys ∧ xs.length + ys.length ≤ sizeLine ∧ ∀ (z : Addr) (H3 : Hp), Same H H3 → SqT K H3 z (xs ++ ys) → Q (.ref z) H3
theorem k_catU {X : Cx} {K : PySem.W.Frag} (e : X.K = K := by rfl) : OpR X (binaryOp .Add) (rCatU K) := by
  subst e
  intro pins s σ H x y v u Q I rx ry h
  obtain ⟨a, b, xs, ys, rfl, rfl, hA, hB, hl, q⟩ := h
  exact op_catA pins s σ H _ _ v u Q I rx ry ⟨a, b, xs, ys, rfl, rfl, hA, hB, hl, cat3 hA hB q⟩
def rSlU (K : PySem.W.Frag) : V → Option Int → Option Int → Hp → VK → Prop := fun x lo hi H Q => ∃ a xs, x = .ref a ∧ SqT K H a xs ∧ ∀ (z : Addr) (H3 : Hp), Same H H3 → SqT K H3 z (cutV xs lo hi) → Q (.ref z) H3
theorem k_slU {X : Cx} {K : PySem.W.Frag} (e : X.K = K := by rfl) : SlR X (rSlU K) := by
  subst e
  intro pins s σ H x v vl vu lo hi sl Q I rx hs pl pu h
  obtain ⟨a, xs, rfl, hA, q⟩ := h
  refine sl_tupA pins s σ H _ v vl vu lo hi sl Q I rx hs pl pu ⟨a, xs, rfl, hA, fun z => q a H (Same.refl H) ?_, fun _ p np => q p _ (same_new np) (.inl (.inl upd_same))⟩
  unfold cutV
  rw [z.1, z.2, Nat.sub_zero, List.drop_zero, List.take_length]
  exact hA
def isRuleD : PyData → Bool
  | .tuple [.tuple xs, .tuple ys] => xs.length == ys.length && (xs ++ ys).all isInt
  | _ => false
end SG

/-! Data that can be told and compared. -/
namespace SG
open PySem PySem.Spec PyProof.Rows L2
structure OkD (d : PyData) : Prop where
  lay : d.canLay0 = true
  dep : d.depth ≤ 50
  tell : tellable d = true
  short : d.leavesShort 4302 = true
  bulk : d.bulk ≤ 3000
structure OkA (ds : List PyData) : Prop where
  lay : PyData.canLayAll0 ds = true
  dep : PyData.depthAll ds ≤ 49
  tell : tellableAll ds = true
  short : PyData.leavesShortAll 4302 ds = true
theorem OkD.shown {d : PyData} (h : OkD d) : d.shown.length ≤ sizeLine := by
  have z := PyData.shown_le_bulk 4302 (by decide) d h.short
  have z2 : (4302 + 2) * d.bulk ≤ 4304 * 3000 := Nat.mul_le_mul (Nat.le_refl _) h.bulk
  rw [sizeLine_eq]
  omega
theorem OkA.tuple {ds : List PyData} (h : OkA ds) (b : PyData.bulkAll ds ≤ 3000) : OkD (.tuple ds) :=
  ⟨by simpa only [PyData.canLay0] using h.lay, by simp only [PyData.depth]; have := h.dep; omega, by simpa only [tellable] using h.tell, by simpa only [PyData.leavesShort] using h.short, by simpa only [PyData.bulk] using b⟩
theorem OkA.list {ds : List PyData} (h : OkA ds) (b : PyData.bulkAll ds ≤ 3000) : OkD (.list ds) :=
  ⟨by simpa only [PyData.canLay0] using h.lay, by simp only [PyData.depth]; have := h.dep; omega, by simpa only [tellable] using h.tell, by simpa only [PyData.leavesShort] using h.short, by simpa only [PyData.bulk] using b⟩
theorem OkA.nil : OkA [] := ⟨by simp [PyData.canLayAll0], by simp [PyData.depthAll], by simp [tellableAll], by simp [PyData.leavesShortAll]⟩
theorem OkA.cons {d : PyData} {ds : List PyData} (h : OkD d) (hd : d.depth ≤ 49) (t : OkA ds) : OkA (d :: ds) :=
  ⟨by simp only [PyData.canLayAll0, h.lay, t.lay, Bool.and_self], by simp only [PyData.depthAll]; have := t.dep; omega, by simp only [tellableAll, h.tell, t.tell, Bool.and_self], by simp only [PyData.leavesShortAll, h.short, t.short, Bool.and_self]⟩
theorem OkD.int {i : Int} (h : i.natAbs < 10 ^ 4300) : OkD (.int i) := by
  refine ⟨by simp only [PyData.canLay0], by simp only [PyData.depth]; omega, ?_, ?_, by simp only [PyData.bulk]; omega⟩
  · simp only [tellable]
    exact decide_eq_true h
  · have e := int_text_length_le10 (k := 4300) (by decide) h
    simp only [PyData.leavesShort]
    refine decide_eq_true ?_
    show (Str.ofString (toString i)).length ≤ 4302
    rw [PySem.ofString_length]
    omega
theorem okA_ints : ∀ {ns : List Int}, (∀ n ∈ ns, n.natAbs < 10 ^ 4300) → OkA (dI ns)
  | [], _ => .nil
  | n :: ns, h => .cons (.int (h n List.mem_cons_self)) (by simp only [PyData.depth]; omega) (okA_ints fun m hm => h m (List.mem_cons_of_mem _ hm))
theorem bulk_ints : ∀ ns : List Int, PyData.bulkAll (dI ns) = ns.length
  | [] => by simp [dI, PyData.bulkAll]
  | n :: ns => by
    have ih := bulk_ints ns
    show PyData.bulkAll (PyData.int n :: dI ns) = ns.length + 1
    simp only [PyData.bulkAll, PyData.bulk, ih]
    omega
end SG
namespace SG
open PySem PySem.Spec PyProof.Rows L2
theorem canLay_mem : ∀ {ds : List PyData} {d : PyData}, PyData.canLayAll0 ds = true → d ∈ ds → d.canLay0 = true
  | x :: xs, d, h, m => by
    have h2 : x.canLay0 = true ∧ PyData.canLayAll0 xs = true := by simpa only [PyData.canLayAll0, Bool.and_eq_true] using h
    rcases List.mem_cons.mp m with e | m
    · rw [e]; exact h2.1
    · exact canLay_mem h2.2 m
theorem canLay_sub : ∀ {es ds : List PyData}, PyData.canLayAll0 ds = true → (∀ e ∈ es, e ∈ ds) → PyData.canLayAll0 es = true
  | [], _, _, _ => by simp only [PyData.canLayAll0]
  | e :: es, ds, h, s => by
    simp only [PyData.canLayAll0, canLay_mem h (s e List.mem_cons_self), canLay_sub (es := es) h fun x m => s x (List.mem_cons_of_mem _ m), Bool.and_self]
theorem depth_mem : ∀ {ds : List PyData} {d : PyData}, d ∈ ds → d.depth ≤ PyData.depthAll ds
  | x :: xs, d, m => by
    simp only [PyData.depthAll]
    rcases List.mem_cons.mp m with e | m
    · rw [e]; exact Nat.le_max_left _ _
    · exact Nat.le_trans (depth_mem m) (Nat.le_max_right _ _)
theorem depth_sub : ∀ {es ds : List PyData}, (∀ e ∈ es, e ∈ ds) → PyData.depthAll es ≤ PyData.depthAll ds
  | [], _, _ => by simp only [PyData.depthAll]; omega
  | e :: es, ds, s => by
    simp only [PyData.depthAll]
    exact Nat.max_le.mpr ⟨depth_mem (s e List.mem_cons_self), depth_sub fun x m => s x (List.mem_cons_of_mem _ m)⟩
theorem shaped_sub {es ds : List PyData} (h1 : PyData.canLayAll0 ds = true) (h2 : PyData.depthAll ds ≤ 60) (s : ∀ e ∈ es, e ∈ ds) : SeqAt.shaped (.list es) = true := by
  have a := canLay_sub h1 s
  have b := depth_sub s
  simp only [SeqAt.shaped, PyData.canLay0, PyData.depth, a, Bool.true_and]
  exact decide_eq_true (by omega)
theorem eqv_nil : ∀ ds : List PyData, PyData.eqv (.list ds) (.list []) = ds.isEmpty
  | [] => by simp [PyData.eqv, PyData.eqvAll]
  | d :: ds => by simp [PyData.eqv, PyData.eqvAll]
/-- a comprehension over a tuple of data that keeps those that p takes -/
theorem lc_tupF {K : PySem.W.Frag} {a D : Addr} {xs : List V} {ds : List PyData} {tt : TT} {s : Nat} {σ : L2.St} {H1 : Hp} {Qd : Hp → Prop} (p : PyData → Bool) (hn : xs.length ≤ 1000) (hD : H1 D = none) (hS : SqT K H1 a xs) (hX : DpAll K H1 xs ds) (hs : s < σ.length)
    (turn : ∀ (x : V) (d : PyData) (H2 : Hp), d ∈ ds → Dp K H2 x d → ∀ R : Bool → Hp → Prop, R (p d) H2 → tt ((wipe σ [s]).set s (some x)) H2 R)
    (done : ∀ (ys : List V) (H2 : Hp), Same H1 H2 → H2 D = some (.lst ys) → DpAll K H1 ys (ds.filter p) → Qd H2) :
    ∃ W : Nat → Nat → Hp → Prop, (∃ m, W 0 m (upd H1 D (.lst []))) ∧ ∀ i m H, W i m H →
      ((Itt K a).stop i H ∧ Qd H) ∨ ((Itt K a).go i H ∧ ∃ Nx : Hp → Prop, (∀ H2, Nx H2 → ∃ m2, m2 < m ∧ W (i + 1) m2 H2) ∧ ∀ x H2, (Itt K a).yld i H x H2 → gName s x (wipe σ [s]) H2 fun σ2 H3 => wipe σ2 [s] = wipe σ [s] ∧ tt σ2 H3 fun b H4 =>
        if b = true then tVar s σ2 H4 fun y H5 => ∃ acc, H5 D = some (.lst acc) ∧ acc.length < sizeLine ∧ Nx (upd H5 D (.lst (acc ++ [y]))) else Nx H4) := by
  refine lc_tup (xs := xs) (fun i H2 => Same H1 H2 ∧ ∃ ys, H2 D = some (.lst ys) ∧ DpAll K H1 ys ((ds.take i).filter p) ∧ ys.length ≤ i) ⟨same_new hD, [], upd_same, by simpa using DpAll.nil, Nat.le_refl _⟩ (fun i H2 _ q => sameT q.1 hS) ?_ ?_
  · rintro i x H2 hx ⟨sm, ys, h2, hY, hl⟩
    obtain ⟨d, h1, h3⟩ := dpA_get hX hx
    have hi : i < xs.length := (List.getElem?_eq_some_iff.mp hx).1
    have e1 : (ds.take (i + 1)).filter p = (ds.take i).filter p ++ (if p d = true then [d] else []) := by
      rw [List.take_add_one, h1]
      show ((ds.take i) ++ [d]).filter p = _
      rw [List.filter_append]
      congr 1
      by_cases e : p d = true <;> simp [e]
    refine ⟨wipe1 _ _ _, ?_⟩
    refine turn x d H2 (List.mem_of_getElem? h1) (dp_same sm h3) _ ?_
    by_cases e : p d = true
    · refine ifT e ⟨x, ?_, ys, h2, small1000 (by omega), same_upd_of sm hD, ys ++ [x], upd_same, ?_, by rw [List.length_append]; simpa using hl⟩
      · rw [List.getElem?_set_self (by rw [wipe_length]; exact hs)]
      · rw [e1, if_pos e]
        exact dpA_app hY (.cons h3 .nil)
    · refine ifF (by simpa using e) ⟨sm, ys, h2, ?_, by omega⟩
      rw [e1, if_neg e, List.append_nil]
      exact hY
  · rintro H2 ⟨sm, ys, h2, hY, hl⟩
    refine done ys H2 sm h2 ?_
    rw [dpA_len hX, List.take_length] at hY
    exact hY
end SG

/-! Calls by keywords alone. -/
namespace SG
open PySem PySem.Spec PyProof.Rows L2
def kwOne {α : Type} : List α → List α → List α
  | [], [a] => [a]
  | _, _ => []
/-- two keywords, in the other order -/
def kwTurn {α : Type} : List α → List α → List α
  | [], [b, a] => [a, b]
  | _, _ => []
theorem kwOne_rel {vs : List V} {us : List Value} {zs : List V} {ws : List Value} (a : Vals vs us) (b : Vals zs ws) : Vals (kwOne vs zs) (kwOne us ws) := by
  cases a with
  | nil =>
    cases b with
    | nil => exact .nil
    | cons r t =>
      cases t with
      | nil => exact .cons r .nil
      | cons _ _ => exact .nil
  | cons _ _ => exact .nil
theorem kwTurn_rel {vs : List V} {us : List Value} {zs : List V} {ws : List Value} (a : Vals vs us) (b : Vals zs ws) : Vals (kwTurn vs zs) (kwTurn us ws) := by
  cases a with
  | nil =>
    cases b with
    | nil => exact .nil
    | cons r t =>
      cases t with
      | nil => exact .nil
      | cons r2 t2 =>
        cases t2 with
        | nil => exact .cons r2 (.cons r .nil)
        | cons _ _ => exact .nil
  | cons _ _ => exact .nil
theorem kb_of {K : PySem.W.Frag} {x qn : Str} {st : Stmt} {f : Addr} {fd : FuncData} {ps ks : List Str} {g : List Value → List Value → List Value} {gV : List V → List V → List V} (F : Fun K x qn st f fd)
    (h : ∀ (kV doc pm : Value) (an : Option Addr) (cdv ct : Value) (us ws : List Value), (g us ws).length = ps.length → bindArgs (PySem.W.fnOf x qn (defArgs st) (defBody st) (defScope st) .none kV doc pm an cdv ct) ⟨us, ks.zip ws⟩ = pure (ps.zip (g us ws)))
    (rel : ∀ {vs : List V} {us : List Value} {zs : List V} {ws : List Value}, Vals vs us → Vals zs ws → Vals (gV vs zs) (g us ws)) : KBinds K fd ps ks g gV := by
  obtain ⟨oc, od, kV, doc, pm, an, cdv, ct, osl, rfl, lk, hcd⟩ := F.ex
  exact ⟨fun s us ws _ hl => .of_eq (h kV doc pm an cdv ct us ws hl), rel⟩
end SG

/-! Data that stays while the deck is drawn from; small data. -/
namespace SG
open PySem PySem.Spec PyProof.Rows L2
section
variable {K : PySem.W.Frag} {d l : Addr} {c : Nat} {H H2 : Hp}
def St (K : PySem.W.Frag) (d l : Addr) (H : Hp) (x : V) (D : PyData) : Prop := ∀ H2, Kept d l H H2 → Dp K H2 x D
def StA (K : PySem.W.Frag) (d l : Addr) (H : Hp) (xs : List V) (ds : List PyData) : Prop := ∀ H2, Kept d l H H2 → DpAll K H2 xs ds
theorem St.at {x : V} {D : PyData} (h : St K d l H x D) : Dp K H x D := h H (Kept.refl _ _ _)
theorem St.mono {x : V} {D : PyData} (h : St K d l H x D) (k : Kept d l H H2) : St K d l H2 x D := fun H3 k3 => h H3 (k.trans k3)
theorem StA.mono {xs : List V} {ds : List PyData} (h : StA K d l H xs ds) (k : Kept d l H H2) : StA K d l H2 xs ds := fun H3 k3 => h H3 (k.trans k3)
theorem St.int (i : Int) : St K d l H (.int i) (.int i) := fun _ _ => .int i
theorem St.bl (b : Bool) : St K d l H (.bl b) (.bool b) := fun _ _ => .bl b
theorem St.str (t : Str) : St K d l H (.str t) (.str t) := fun _ _ => .str t
theorem St.non : St K d l H .non .none := fun _ _ => .non
theorem St.tup {a : Addr} {xs : List V} {ds : List PyData} (D : Deck H d l c) (h : SqT K H a xs) (t : StA K d l H xs ds) : St K d l H (.ref a) (.tuple ds) := fun H3 k => .tup (k.tup D h) (t H3 k)
theorem St.lst {a : Addr} {xs : List V} {ds : List PyData} (h : H a = some (.lst xs)) (n1 : a ≠ d) (n2 : a ≠ l) (t : StA K d l H xs ds) : St K d l H (.ref a) (.list ds) := fun H3 k => .lst (SqL.of (k _ _ h n1 n2)) (t H3 k)
theorem StA.nil : StA K d l H [] [] := fun _ _ => .nil
theorem StA.cons {x : V} {xs : List V} {D : PyData} {ds : List PyData} (a : St K d l H x D) (b : StA K d l H xs ds) : StA K d l H (x :: xs) (D :: ds) := fun H3 k => .cons (a H3 k) (b H3 k)
theorem StA.app {xs ys : List V} {ds es : List PyData} (a : StA K d l H xs ds) (b : StA K d l H ys es) : StA K d l H (xs ++ ys) (ds ++ es) := fun H3 k => dpA_app (a H3 k) (b H3 k)
theorem StA.ints (ns : List Int) : StA K d l H (ns.map V.int) (dI ns) := fun _ _ => dpInts ns
end
/-! ### small data -/
structure Sm (n b : Nat) (D : PyData) : Prop where
  lay : D.canLay0 = true
  dep : D.depth ≤ n
  tell : tellable D = true
  short : D.leavesShort 4302 = true
  bulk : D.bulk ≤ b
structure SmA (n b : Nat) (ds : List PyData) : Prop where
  lay : PyData.canLayAll0 ds = true
  dep : PyData.depthAll ds ≤ n
  tell : tellableAll ds = true
  short : PyData.leavesShortAll 4302 ds = true
  bulk : PyData.bulkAll ds ≤ b
theorem Sm.ok {n b : Nat} {D : PyData} (h : Sm n b D) (hn : n ≤ 50) (hb : b ≤ 3000) : OkD D := ⟨h.lay, Nat.le_trans h.dep hn, h.tell, h.short, Nat.le_trans h.bulk hb⟩
theorem Sm.mono {n b m e : Nat} {D : PyData} (h : Sm n b D) (hn : n ≤ m) (hb : b ≤ e) : Sm m e D := ⟨h.lay, Nat.le_trans h.dep hn, h.tell, h.short, Nat.le_trans h.bulk hb⟩
theorem SmA.mono {n b m e : Nat} {ds : List PyData} (h : SmA n b ds) (hn : n ≤ m) (hb : b ≤ e) : SmA m e ds := ⟨h.lay, Nat.le_trans h.dep hn, h.tell, h.short, Nat.le_trans h.bulk hb⟩
theorem SmA.tuple {n b : Nat} {ds : List PyData} (h : SmA n b ds) : Sm (n + 1) b (.tuple ds) :=
  ⟨by simpa only [PyData.canLay0] using h.lay, by simp only [PyData.depth]; have := h.dep; omega, by simpa only [tellable] using h.tell, by simpa only [PyData.leavesShort] using h.short, by simpa only [PyData.bulk] using h.bulk⟩
theorem SmA.list {n b : Nat} {ds : List PyData} (h : SmA n b ds) : Sm (n + 1) b (.list ds) :=
  ⟨by simpa only [PyData.canLay0] using h.lay, by simp only [PyData.depth]; have := h.dep; omega, by simpa only [tellable] using h.tell, by simpa only [PyData.leavesShort] using h.short, by simpa only [PyData.bulk] using h.bulk⟩
theorem SmA.nil (n : Nat) : SmA n 0 [] := ⟨by simp [PyData.canLayAll0], by simp [PyData.depthAll], by simp [tellableAll], by simp [PyData.leavesShortAll], by simp [PyData.bulkAll]⟩
theorem SmA.cons {n b e : Nat} {D : PyData} {ds : List PyData} (h : Sm n b D) (t : SmA n e ds) : SmA n (b + 1 + e) (D :: ds) :=
  ⟨by simp only [PyData.canLayAll0, h.lay, t.lay, Bool.and_self], by simp only [PyData.depthAll]; exact Nat.max_le.mpr ⟨h.dep, t.dep⟩, by simp only [tellableAll, h.tell, t.tell, Bool.and_self], by simp only [PyData.leavesShortAll, h.short, t.short, Bool.and_self],
    by simp only [PyData.bulkAll]; have := h.bulk; have := t.bulk; omega⟩
theorem SmA.app {n e : Nat} {es : List PyData} (t : SmA n e es) : ∀ {ds : List PyData} {b : Nat}, SmA n b ds → SmA n (b + e) (ds ++ es)
  | [], b, h => t.mono (Nat.le_refl _) (by omega)
  | D :: ds, b, h => by
    have l1 : D.canLay0 = true ∧ PyData.canLayAll0 ds = true := by simpa only [PyData.canLayAll0, Bool.and_eq_true] using h.lay
    have l2 : tellable D = true ∧ tellableAll ds = true := by simpa only [tellableAll, Bool.and_eq_true] using h.tell
    have l3 : D.leavesShort 4302 = true ∧ PyData.leavesShortAll 4302 ds = true := by simpa only [PyData.leavesShortAll, Bool.and_eq_true] using h.short
    have l4 : D.depth ≤ n ∧ PyData.depthAll ds ≤ n := by have := h.dep; simp only [PyData.depthAll] at this; exact Nat.max_le.mp this
    have l5 : D.bulk + 1 + PyData.bulkAll ds ≤ b := by have := h.bulk; simpa only [PyData.bulkAll] using this
    have z := SmA.app t (ds := ds) (b := PyData.bulkAll ds) ⟨l1.2, l4.2, l2.2, l3.2, Nat.le_refl _⟩
    exact (SmA.cons ⟨l1.1, l4.1, l2.1, l3.1, Nat.le_refl _⟩ z).mono (Nat.le_refl _) (by omega)
theorem Sm.int {i : Int} (h : i.natAbs < 10 ^ 4300) : Sm 0 0 (.int i) := by
  have z := OkD.int h
  exact ⟨z.lay, by simp [PyData.depth], z.tell, z.short, by simp [PyData.bulk]⟩
theorem SmA.ints : ∀ {ns : List Int}, (∀ n ∈ ns, n.natAbs < 10 ^ 4300) → SmA 0 ns.length (dI ns)
  | [], _ => .nil 0
  | n :: ns, h => (SmA.cons (Sm.int (h n List.mem_cons_self)) (SmA.ints fun m hm => h m (List.mem_cons_of_mem _ hm))).mono (Nat.le_refl _) (by simp; omega)
end SG

/-! Texts: joined signs; lists of values that are drawn. -/
namespace SG
open PySem PySem.Spec PyProof.Rows L2 TL
open SX (S S_tl S_len)
def rJoin (K : PySem.W.Frag) : V → List V → Hp → VK → Prop := fun x xs H Q => ∃ a p, ∃ ys : List Str, x = .str a ∧ xs = [.ref p] ∧ (SqL K H p (ys.map V.str) ∨ SqT K H p (ys.map V.str)) ∧ (ys.map (·.length)).sum + ys.length * a.length ≤ 16777216 ∧ Q (.str (Txt.join a ys)) H
theorem k_join {X : Cx} {K : PySem.W.Frag} {o e : Expr} {to te : TE} {apos pos : Pos} (ho : PE X o to) (he : PE X e te) (eK : X.K = K := by rfl) (hs : starEach [e] X.env = [(false, eval e X.env)] := by rfl) (hbase : attributeBase o "join" X.env (eval o X.env) = eval o X.env := by rfl) (hline : (apos.endLine == pos.line) = true := by rfl) :
    PE X (.Call (.Attribute o "join" apos) [e] [] pos) (tM1 (rJoin K) to te) := eK ▸ pe_join ho he hs hbase hline
/-- single signs, joined -/
theorem join_signs : ∀ gs : List Nat, Txt.join "" (gs.map fun g => (⟨#[g]⟩ : Str)) = S gs := by
  intro gs
  rw [join_eq]
  have z := tl_join "" (gs.map fun g => (⟨#[g]⟩ : Str))
  have e : ∀ ls : List Nat, joinL (tl ("" : Str)) (ls.map fun g => [g]) = ls := by
    intro ls
    induction ls with
    | nil => rfl
    | cons a r ih =>
      cases r with
      | nil => rfl
      | cons b r2 =>
        show [a] ++ (tl ("" : Str) ++ joinL (tl ("" : Str)) ((b :: r2).map fun g => [g])) = _
        rw [ih]
        rfl
  rw [List.map_map] at z
  have z2 := z.trans (e gs)
  exact (S_tl _).symm.trans (congrArg S z2)
/-- a list of values that are drawn, turn by turn -/
theorem lc_drawsV {d l D : Addr} {c n s : Nat} {te : TE} {σ : L2.St} {H1 : Hp} {Qd : Hp → Prop} {B : V → Prop} (D0 : Deck H1 d l c) (hD : H1 D = none) (hn : n ≤ 1000)
    (turn : ∀ (i : Nat) (H2 : Hp), i < n → Deck H2 d l (c + i) → Kept d l H1 H2 → ∀ R : VK, (∀ (x : V) (H3 : Hp), B x → Deck H3 d l (c + i + 1) → Kept d l H2 H3 → R x H3) → te ((wipe σ [s]).set s (some (.int (0 + i)))) H2 R)
    (done : ∀ (xs : List V) (H2 : Hp), xs.length = n → (∀ x ∈ xs, B x) → H2 D = some (.lst xs) → Deck H2 d l (c + n) → Kept d l H1 H2 → Qd H2) :
    ∃ W : Nat → Nat → Hp → Prop, (∃ m, W 0 m (upd H1 D (.lst []))) ∧ ∀ i m H, W i m H →
      ((Itr 0 n).stop i H ∧ Qd H) ∨ ((Itr 0 n).go i H ∧ ∃ Nx : Hp → Prop, (∀ H2, Nx H2 → ∃ m2, m2 < m ∧ W (i + 1) m2 H2) ∧ ∀ x H2, (Itr 0 n).yld i H x H2 → gName s x (wipe σ [s]) H2 fun σ2 H3 => wipe σ2 [s] = wipe σ [s] ∧ tYes σ2 H3 fun b H4 =>
        if b = true then te σ2 H4 fun y H5 => ∃ acc, H5 D = some (.lst acc) ∧ acc.length < sizeLine ∧ Nx (upd H5 D (.lst (acc ++ [y]))) else Nx H4) := by
  obtain ⟨nd, nl⟩ := D0.ne hD
  refine lc_range (fun i H2 => ∃ xs : List V, xs.length = i ∧ (∀ x ∈ xs, B x) ∧ H2 D = some (.lst xs) ∧ Deck H2 d l (c + i) ∧ Kept d l H1 H2) ?_ ?_ ?_
  · exact ⟨[], rfl, (fun _ h => absurd h List.not_mem_nil), upd_same, D0.upd hD, .of (same_new hD)⟩
  · rintro i H2 hi ⟨xs, hx, hB, hD2, D2, k2⟩
    refine ⟨wipe1 _ _ _, ?_⟩
    refine yesI ?_
    refine turn i H2 hi D2 k2 _ fun x H3 hb D3 k3 => ⟨xs, k3 _ _ hD2 nd nl, ?_, xs ++ [x], by simp [hx], fun y hy => ?_, upd_same, ?_, ?_⟩
    · rw [hx]
      exact small1000 (by omega)
    · rcases List.mem_append.mp hy with h | h
      · exact hB y h
      · rw [List.mem_singleton.mp h]; exact hb
    · obtain ⟨cs, m, k, h1, h2, h3⟩ := D3
      exact ⟨cs, m, k, by rw [upd_ne nd.symm]; exact h1, by rw [upd_ne nl.symm]; exact h2, h3⟩
    · intro b o e h1 h2
      rw [upd_ne (ne_of_none e hD)]
      exact k3 _ _ (k2 _ _ e h1 h2) h1 h2
  · rintro H2 ⟨xs, hx, hB, hD2, D2, k2⟩
    exact done xs H2 hx hB hD2 D2 k2
/-- values that are single signs -/
theorem signs_of : ∀ {xs : List V} {p : Nat → Prop}, (∀ x ∈ xs, ∃ g, p g ∧ x = .str ⟨#[g]⟩) → ∃ gs : List Nat, xs = (gs.map fun g => (⟨#[g]⟩ : Str)).map V.str ∧ ∀ g ∈ gs, p g
  | [], _, _ => ⟨[], rfl, fun _ h => nomatch h⟩
  | x :: xs, p, h => by
    obtain ⟨g, hg, rfl⟩ := h x List.mem_cons_self
    obtain ⟨gs, rfl, hs⟩ := signs_of (xs := xs) (p := p) fun y hy => h y (List.mem_cons_of_mem _ hy)
    refine ⟨g :: gs, rfl, fun y hy => ?_⟩
    rcases List.mem_cons.mp hy with rfl | hy
    · exact hg
    · exact hs y hy
theorem sum_ones : ∀ gs : List Nat, ((gs.map fun g => (⟨#[g]⟩ : Str)).map (·.length)).sum = gs.length
  | [] => rfl
  | g :: gs => by
    have ih := sum_ones gs
    simp only [List.map_cons, List.sum_cons, List.length_cons, ih]
    show 1 + gs.length = _
    omega
end SG

/-! enumerate of a text from a number on; an integer's figures of base 2 in an f-string. -/
namespace SG
section
open PySem PyProof.Rows Builtin
def fB : PySem.Builtin.Float.FormatSpec := { fill := 32, align := 62, type := some 98 }
theorem fB_ok : PySem.Builtin.Float.parseFormatSpec ("b" : PySem.Str).cps.toList "int" 62 = .ok fB := by
  rfl
section
variable {prog : Program} {w : World} {A : Around} {E : Value → Shared → Prop} {s : Shared} {env : Env}
theorem mk_eq {M : Model} {X T : PySem.Str} {Q : Value → Shared → Prop} (e : X = T) (hL : T.length ≤ sizeLine) (h : Q (.str T s.toks) { s with toks := s.toks + 1 }) : wpAny M A (mkStr X) Q E s := by
  subst e
  exact wpAny_mkStr h hL
theorem formatField_int_b2 {n : Nat} {t : Tok} {spec : PySem.Str} {f : PySem.Builtin.Float.FormatSpec} {Q : Value → Shared → Prop} (hl : (Nat.toDigits 2 n).length ≤ 1000) (hd : Nat.toDigits 2 n ≠ [])
    (hp : PySem.Builtin.Float.parseFormatSpec spec.cps.toList "int" 62 = .ok f) (hty : f.type = some 98) (hpr : f.precision = none) (hz : f.noNeg0 = false) (hal : f.alt = false) (hw : f.width = none) (hgr : f.grouping = none) (hsg : f.sign = none) (hfi : f.fill = 32) (hag : f.align = 62) (hne : (spec.length == 0) = false) (hsz : spec.length ≤ sizeLine)
    (hasc : ((spec.cps.toList.drop 1).any (· ≥ 128) || (spec.cps.getD 0 0 ≥ 128 && !([60, 62, 61, 94] : List Nat).contains (spec.cps.getD 1 0))) = false)
    (h : Q (.str ⟨((Nat.toDigits 2 n).map Char.toNat).toArray⟩ (s.toks + 1)) { s with toks := s.toks + 1 + 1 }) :
    wpAny (model prog w) A (formatField (.int n t) spec) Q E s := by
  show wpAny _ _ (holding [.int n t] (pyFormat (.int n t) spec)) Q E s
  refine wpAny_holding ?_
  unfold pyFormat
  refine wpAny_bind (wpAny_mkStr ?_ hsz)
  refine wpAny_bind (m := callSpecial? (.int n t) (Str.ofString "__format__") [.str spec s.toks]) (wpAny_callSpecial?_slot (name := Str.ofString "__format__") (typeIs_int _ n t) slot_int_format ?_)
  refine wpAny_call (codeAny_call_builtin slot_int_format.plain entry_int_format (slot_int_format.check _ _ _ _ _ _ _ _ (typeIs_int _ n t) (args_int_format _ _) ?_))
  unfold Builtin.«int.__format__»
  simp only [selfAndOne, noKeywords, Int.intOfSelf, asInt?, asStr?, List.isEmpty_nil, if_true, pure_bind, bind_pure, bind_assoc, hne, hasc, Bool.false_eq_true, if_false,
    show (Value.str spec s.toks == Value.none) = false from rfl]
  refine wpAny_bind (wpAny_typeNameOf (T := "str") (typeIs_str _ _ _) (by decide) fun _ => ?_)
  first | refine wpAny_bind (wpAny_typeNameOfCut_int ?_) | refine wpAny_bind (wpAny_typeNameOf_int ?_)
  simp only [hp, hty, Option.getD_some]
  rw [if_pos (by decide)]
  show wpAny _ _ (if _ then _ else _) _ _ _
  rw [if_neg (by simp [hpr])]
  show wpAny _ _ (if _ then _ else _) _ _ _
  rw [if_neg (by simp [hz])]
  show wpAny _ _ (if _ then _ else _) _ _ _
  rw [if_neg (by decide)]
  show wpAny _ _ (if _ then _ else _) _ _ _
  rw [if_neg (by decide)]
  show wpAny _ _ (if _ then _ else _) _ _ _
  rw [if_neg (by simp [hw])]
  show wpAny _ _ (retStr _) _ _ _
  unfold retStr
  have e : ∀ d : Nat, (if ((98 : Nat) == 88) = true then (Nat.digitChar d).toUpper else Nat.digitChar d).toNat = (Nat.digitChar d).toNat := fun d => rfl
  refine wpAny_bind (mk_eq (T := ⟨((Nat.toDigits 2 n).map Char.toNat).toArray⟩) ?_ ?_ (wpAny_pure ?_))
  · rw [if_neg (show ¬ f.alt = true by rw [hal]; exact Bool.false_ne_true)]
    have e1 : (List.map (fun c : Char => (if ((98 : Nat) == 88) = true then c.toUpper else c).toNat) (Nat.toDigits 2 (n : Int).natAbs)) = (Nat.toDigits 2 n).map Char.toNat := rfl
    have e2 : decide ((n : Int) < 0) = false := decide_eq_false (by omega)
    have e3 : ((Nat.toDigits 2 n).map Char.toNat).isEmpty = false := by
      cases q : Nat.toDigits 2 n with
      | nil => exact absurd q hd
      | cons _ _ => rfl
    rw [e1, e2]
    have ef : f = fB := by
      cases f
      simp_all [fB]
    clear hp hty hpr hz hal hw hgr hsg hfi hag h
    subst ef
    generalize (Nat.toDigits 2 n).map Char.toNat = ds at e3 ⊢
    cases ds with
    | nil => cases e3
    | cons a r =>
      conv => lhs; whnf
      have z : ((-1 : Int) - ((0 : Nat) + (0 : Nat) + (0 : Nat)) - (((a :: r).length : Nat) : Int)).toNat = 0 := by omega

      simp [fB]
      omega
  · show ((Nat.toDigits 2 n).map Char.toNat).toArray.size ≤ sizeLine
    rw [List.size_toArray, List.length_map]
    exact Nat.le_trans hl (by decide)
  · dsimp only
    refine wpAny_bind (wpAny_isInstance (typeIs_str _ _ _) isSubtype_str_str (wpAny_pure ?_))
    exact h
theorem formatField_int_b {n : Nat} {t : Tok} {Q : Value → Shared → Prop} (hl : (Nat.toDigits 2 n).length ≤ 1000) (hd : Nat.toDigits 2 n ≠ [])
    (h : Q (.str ⟨((Nat.toDigits 2 n).map Char.toNat).toArray⟩ (s.toks + 1)) { s with toks := s.toks + 1 + 1 }) :
    wpAny (model prog w) A (formatField (.int n t) "b") Q E s :=
  formatField_int_b2 hl hd fB_ok rfl rfl rfl rfl rfl rfl rfl rfl rfl (by decide +kernel) (by decide) (by decide +kernel) h
end
end
end SG
namespace SG
open PySem PySem.Spec PyProof.Rows L2
section
variable {M : Model} {A : Around} {E : Value → Shared → Prop} {s : Shared} {env : Env}
theorem callWith_tyKwB {pos : Pos} {T : String} {first : List Value} {args : List (Bool × Sem Value)} {keywords : List (Option Str × Sem Value)} {Q : Value → Shared → Prop}
    (hplain : args.any (·.1) = false) (hkw : keywords.any (·.1.isNone) = false)
    (h : wpAny M A (evalArgs (.type T) true args keywords) (fun a s₁ => wpAny M A (call (.type T) (first ++ a.pos) a.kw) Q E s₁) E s) :
    wpAny M A (callWith pos (.type T) first args keywords) Q E s := by
  unfold callWith
  refine wpAny_bind (wpAny_holding (wpAny_mono h (fun a s₁ h₁ => wpAny_bind (wpAny_standAt ?_)) fun _ _ x => x))
  simp only [hplain, hkw, Bool.or_false]
  refine wpAny_bind (wpAny_pure ?_)
  exact wpAny_bind (wpAny_mono h₁ (fun r s₂ hr => wpAny_bind (wpAny_holding (wpAny_point (wpAny_pure hr)))) fun _ _ x => x)
theorem callWith_tyKw {pos : Pos} {T : String} {e : Expr} {rest : List Expr} {kws : List Keyword} {Q : Value → Shared → Prop}
    (h : wpAny M A (spliced (backTo pos (starEach (e :: rest) env))) (fun vs s₁ => wpAny M A (evalAll ((backToKw pos (keywordEach kws env)).map (·.2)))
      (fun kvs s₂ => wpAny M A (call (.type T) vs (((backToKw pos (keywordEach kws env)).filterMap (·.1)).zip kvs)) Q E s₂) E s₁) E s)
    (he : backTo pos (starEach (e :: rest) env) = (false, eval e env) :: backTo pos (starEach rest env) := by rfl)
    (hplain : (backTo pos (starEach (e :: rest) env)).any (·.1) = false := by rfl)
    (hall : (backToKw pos (keywordEach kws env)).all (·.1.isSome) = true := by rfl)
    (hkw : (backToKw pos (keywordEach kws env)).any (·.1.isNone) = false := by rfl) :
    wpAny M A (callWith pos (.type T) [] (backTo pos (starEach (e :: rest) env)) (backToKw pos (keywordEach kws env))) Q E s := by
  refine callWith_tyKwB hplain hkw ?_
  rw [he] at h ⊢
  exact evalArgs_kwB hall h
end
theorem Draws.shift {prog : Program} {w : World} {A : Around} {it : Addr} {fp : List Addr} {n : Nat} {P : Nat → Value → Prop} {St : Nat → Heap → Prop} (D : Draws prog w A it fp n P St) (k : Nat) :
    Draws prog w A it fp (k + n) (fun j v => P (j - k) v) (fun j h => k ≤ j ∧ St (j - k) h) where
  live := fun _ _ st => D.live _ _ st.2
  frame := fun _ _ _ st hk => ⟨st.1, D.frame _ _ _ st.2 hk⟩
  item := fun i s Q E hi st hQ => D.item (i - k) s Q E (by omega) st.2 fun v h' tk p st' sb => hQ v h' tk p ⟨by omega, by rw [show i + 1 - k = i - k + 1 by omega]; exact st'⟩ sb
  done := fun s Q E st hE => D.done s Q E (by rw [show n = k + n - k by omega]; exact st.2) hE
/-- a text's signs, each behind its number, from k on, in a new pair -/
def IteS (x : Str) (k : Nat) : It :=
  ⟨fun i _ => i < x.cps.size, fun i Hx v H2 => ∃ T c, v = .ref T ∧ Hx T = none ∧ x.cps[i]? = some c ∧ H2 = upd Hx T (.tup [.int ((k + i : Nat) : Int), .str ⟨#[c]⟩]), fun i _ => x.cps.size ≤ i⟩
theorem turn_enumS {P : Program} {w : World} {K : PySem.W.Frag} {elts : List Expr} {kk : Nat} {tpos : Pos} (x : Str) (t : Tok) (k : Nat) (e it : Addr) :
    Turn P w K (.Tuple elts kk tpos) (IteS x k) [e, it] e (fun i h => (∃ old, IsEnum h e it ((k + i : Nat) : Int) old) ∧ h.IsStrIter it (strIterType x) x t i ∧ e ≠ it) where
  mem := by simp
  obj := fun i h q b hb => by
    obtain ⟨⟨old, he⟩, ⟨o, ho, hc, hd⟩, _⟩ := q
    rcases (show b = e ∨ b = it by simpa using hb) with z | z
    · rw [z]; exact ⟨_, he, fun v q => nomatch q⟩
    · rw [z]; exact ⟨o, ho, fun v q => by rw [hd] at q; cases q⟩
  keep := fun i h h2 q kp => by
    obtain ⟨⟨old, he⟩, ⟨o, ho, r⟩, hne⟩ := q
    exact ⟨⟨old, kp e (by simp) _ he⟩, ⟨o, kp it (by simp) o ho, r⟩, hne⟩
  item := by
    intro X hP hw hK hc i pins st σ Hx E I hf q hg
    subst hP hw hK
    obtain ⟨⟨old, he⟩, hit, hne⟩ := q
    have hel : e < st.heap.objs.size := Heap.lt_size he
    have hil : it < st.heap.objs.size := by obtain ⟨_, z, _⟩ := hit; exact Heap.lt_size z
    have hi : i < x.cps.size := hg
    refine wpAny_pyNext_enum_itemD (Draws.shift (Draws.text (prog := X.prog) (w := X.w) (A := X.A.in1) (I.ok.hd hc) it x t) k) (i := k + i) he ⟨Nat.le_add_right _ _, by rw [Nat.add_sub_cancel_left]; exact hit⟩ (by omega) hne (by simp [hne]) fun y h1 tk hy ho hs1 hT hsz hk => ?_
    obtain ⟨c, u, hcx, rfl⟩ := hy
    rw [Nat.add_sub_cancel_left] at hcx
    have hs2 := hs1.2
    rw [show k + i + 1 - k = i + 1 by omega] at hs2
    refine ⟨_, rfl, wpAny_letOwnedTupleGo_enum (s := { st with heap := h1, toks := tk + 1 }) ho fun h2 he2 sb => ?_⟩
    have hT2 : h2.get? st.heap.objs.size = some { cls := .type "tuple", data := .seq #[.int ((k + i : Nat) : Int) tk, .str ⟨#[c]⟩ u] } := (sb.2 _ (Nat.ne_of_gt hel)).trans hT
    have new : ObjOk X.prog X.w (upd Hx st.heap.objs.size (.tup [.int ((k + i : Nat) : Int), .str ⟨#[c]⟩])) h2 st.heap.objs.size (.tup [.int ((k + i : Nat) : Int), .str ⟨#[c]⟩]) :=
      ⟨by show 2 ≤ sizeLine; decide, [.int ((k + i : Nat) : Int) tk, .str ⟨#[c]⟩ u], .cons ⟨_, rfl⟩ (.cons ⟨_, rfl⟩ .nil), ⟨_, hT2, rfl, _, rfl⟩⟩
    have I1 : L2.Inv X pins σ (upd Hx st.heap.objs.size (.tup [.int ((k + i : Nat) : Int), .str ⟨#[c]⟩])) { st with heap := h2, toks := tk + 1 } :=
      I.turnedNew (ch := [e, it]) (fun b ob hb z => (sb.2 b (fun z => hb (by simp [z]))).trans (hk b ob (fun z => hb (by simp [z])) (fun z => hb (by simp [z])) z)) hf (Nat.le_refl _) new
    refine ⟨.ref st.heap.objs.size, _, I1, rfl, ⟨_, c, rfl, I.hok.fresh (Nat.le_refl _), hcx, rfl⟩, ⟨⟨.str ⟨#[c]⟩ u, ?_⟩, ?_, hne⟩, fun b hb => ?_⟩
    · rw [show ((k + (i + 1) : Nat) : Int) = ((k + i : Nat) : Int) + 1 by omega]
      exact he2
    · obtain ⟨o, ho, r⟩ := hs2
      exact ⟨o, (sb.2 it (Ne.symm hne)).trans ho, r⟩
    · have hb2 : b < st.heap.objs.size := by
        rcases (show b = e ∨ b = it by simpa using hb) with z | z
        · rw [z]; exact hel
        · rw [z]; exact hil
      rw [upd_ne (Nat.ne_of_lt hb2)]
      exact (hf b hb).1
  done := by
    intro X hP hw hK hc i pins st σ Hx E I hf q hg
    subst hP hw hK
    obtain ⟨⟨old, he⟩, hit, hne⟩ := q
    obtain ⟨f0, f1, f2, f3, f4, f5⟩ := hf it (by simp)
    have hx : x.cps[i]? = none := Array.getElem?_eq_none hg
    have D : Draws X.prog X.w X.A.in1 it [it] i (fun _ _ => True) (fun j h => j = i ∧ h.IsStrIter it (strIterType x) x t i) :=
      { live := fun _ _ z => by obtain ⟨_, ⟨o, ho, _⟩⟩ := z; exact ⟨o, ho⟩
        frame := fun _ _ _ z hk => ⟨z.1, by obtain ⟨o, ho, r⟩ := z.2; exact ⟨o, hk it (by simp) o ho, r⟩⟩
        item := fun j s Q E hj z => absurd z.1 (Nat.ne_of_lt hj)
        done := fun s Q E z hE => ?dn }
    case dn =>
      obtain ⟨_, z⟩ := z
      revert z
      unfold strIterType
      cases ha : x.cps.all (· < 128)
      · simp only [Bool.false_eq_true, if_false]
        intro z
        exact wpAny_nextOf_wide_end (I.ok.hd hc) z hx hE
      · simp only [if_true]
        intro z
        exact wpAny_nextOf_ascii_end (I.ok.hd hc) z hx hE
    exact wpAny_pyNext_enum_endD D he ⟨rfl, hit⟩ fun h2 eb => ⟨rfl, I.turned (t' := st.toks) (fun b o hb q => eb b o hb q) f0 f1 f3 f4 f5⟩
  self := fun A i st Q E q h => by
    obtain ⟨⟨_, he⟩, _⟩ := q
    exact wpAny_pyIter_enum he h
def iEnumS (ta tk : TA) : TI := fun σ Hx R => ta σ Hx fun vs H1 => tk σ H1 fun ks H2 => ∃ (x : Str) (k : Nat), vs = [.str x] ∧ ks = [.int k] ∧ k < 1000000 ∧ R (IteS x k) H2
theorem pi_enumS {X : Cx} {e c : Expr} {ta tk : TA} {p pos tpos kpos : Pos} {elts : List Expr} {kk : Nat} (hg : Gl X "enumerate") (hm : X.mg "enumerate" = none) (ha : PA X [e] ta) (hk : PK X [⟨some "start", c, kpos⟩] tk) (hs : starEach [e] X.env = [(false, eval e X.env)] := by rfl) :
    PI X (.Tuple elts kk tpos) (.Call (.Name "enumerate" p) [e] [⟨some "start", c, kpos⟩] pos) (iEnumS ta tk) := by
  refine ⟨fun pins st σ Hx R I h => ?_⟩
  refine wpAny_Call_Name_kw (ld_blt I hg hm boot_enumerate (callWith_tyKw (thn (ha.run pos pins st σ Hx _ I h) ?_) (by rw [hs]; rfl) (by rw [hs]; rfl)))
  rintro us s1 ⟨vs, H1, I1, r1, q1⟩
  refine thn (hk.run pos pins s1 σ H1 _ I1 q1) ?_
  rintro ws s2 ⟨zs, H2, I2, r2, x, k, rfl, rfl, hk9, q⟩
  obtain ⟨t, rfl⟩ : ∃ t, us = [.str x t] := by
    cases r1 with
    | cons x y => cases y; obtain ⟨t, rfl⟩ := x; exact ⟨_, rfl⟩
  obtain ⟨u, rfl⟩ : ∃ u, ws = [.int k u] := by
    cases r2 with
    | cons x y => cases y; obtain ⟨t, rfl⟩ := x; exact ⟨_, rfl⟩
  show wpAny _ _ (call (.type "enumerate") [.str x t] [(Str.ofString "start", .int k u)]) _ _ _
  refine enum_begins_start (begins_text x t) trivial (by omega) (by omega) fun h2 he hit hsz hkp => wpAny_pyIter_enum he ?_
  have I3 : L2.Inv X pins σ H2 { s2 with heap := h2 } := I2.kept (t' := s2.toks) hkp
  refine ⟨s2.heap.objs.size + 1, [s2.heap.objs.size + 1, s2.heap.objs.size], _, _, H2, rfl, I3, turn_enumS x t k (s2.heap.objs.size + 1) s2.heap.objs.size,
    ⟨⟨.none, he⟩, ⟨_, hit, rfl, rfl⟩, Nat.succ_ne_self _⟩, fun b hb => ?_, q⟩
  have hle : s2.heap.objs.size ≤ b := by
    rcases (show b = s2.heap.objs.size + 1 ∨ b = s2.heap.objs.size by simpa using hb) with z | z
    · rw [z]; exact Nat.le_succ _
    · rw [z]; exact Nat.le_refl _
  exact I2.fpOk hle (I2.hok.fresh hle)
end SG

namespace SG
open PySem PySem.Spec PyProof.Rows L2
open SX (S)
/-- an integer's figures of base 2, as signs -/
def binS (n : Nat) : List Nat := (Nat.toDigits 2 n).map Char.toNat
def tFmtB (te : TE) : TE := fun σ H Q => te σ H fun x H1 => ∃ n : Nat, x = .int n ∧ n < 2 ^ 900 ∧ Q (.str (S (binS n))) H1
theorem bin_len {n : Nat} (h : n < 2 ^ 900) : (Nat.toDigits 2 n).length ≤ 1000 := Nat.le_trans (toDigits_len_pow (by decide) (by decide) h) (by decide)
theorem bin_ne (n : Nat) : Nat.toDigits 2 n ≠ [] := by
  intro e
  have := toDigits_len_ge 2 n
  rw [e] at this
  cases this
theorem pe_fmtB {X : Cx} {e : Expr} {te : TE} {pos p1 p2 : Pos} {j : Nat} (he : PE X e te) : PE X (.FormattedValue e (-1) (some (.JoinedStr [.Constant (.str "b") j p1] p2)) pos) (tFmtB te) := by
  refine ⟨fun pins s σ H Q I h => wpAny_FormattedValue_spec (thn (he.run pins s σ H _ I h) ?_)⟩
  rintro v s1 ⟨x, H1, I1, r1, n, rfl, hn, q⟩
  obtain ⟨t, rfl⟩ := r1
  refine thn ((pe_joined1 (X := X) (pe_str (x := "b"))).run pins s1 σ H1 (fun y H2 => y = .str "b" ∧ H2 = H1) I1 ⟨rfl, rfl⟩) ?_
  rintro u s2 ⟨y, H2, I2, r2, rfl, rfl⟩
  obtain ⟨t2, rfl⟩ := r2
  exact ⟨_, _, rfl, formatField_int_b (bin_len hn) (bin_ne n) ⟨.str (S (binS n)), H2, I2.tok _, ⟨_, rfl⟩, q⟩⟩
theorem walk_enumS {x : Str} {k : Nat} : Walk (IteS x k) x.cps.size (fun _ => True) (fun i H v H' => ∃ T c, v = .ref T ∧ H T = none ∧ x.cps[i]? = some c ∧ H' = upd H T (.tup [.int ((k + i : Nat) : Int), .str ⟨#[c]⟩])) :=
  ⟨fun _ _ hi _ => hi, fun _ _ => Nat.le_refl _, fun _ _ _ _ _ _ y => y⟩
end SG

namespace SG
open PySem PySem.Spec PyProof.Rows L2
def topS (i : Nat) : Stmt := PySem.Challenge.pw_serialhouse_k39_draws_among.main.body.getD i (.Pass ⟨0, 0, 0, 0⟩)
abbrev s_draw : Stmt := topS 1
abbrev N_draw : List Str := ["many", "tosses", "places", "place", "used", "toss"]
theorem sc_draw : FnScope N_draw ["many", "tosses"] (defScope s_draw) := ⟨rfl, rfl, rfl, by decide +kernel, rfl, by decide +kernel, by decide +kernel⟩
abbrev s_power_left : Stmt := topS 2
abbrev N_power_left : List Str := ["depth", "many", "left", "figure"]
theorem sc_power_left : FnScope N_power_left ["depth", "many"] (defScope s_power_left) := ⟨rfl, rfl, rfl, by decide +kernel, rfl, by decide +kernel, by decide +kernel⟩
abbrev s_open_at : Stmt := topS 3
abbrev N_open_at : List Str := ["many", "depth"]
theorem sc_open_at : FnScope N_open_at ["many", "depth"] (defScope s_open_at) := ⟨rfl, rfl, rfl, by decide +kernel, rfl, by decide +kernel, by decide +kernel⟩
abbrev s_leaves_at : Stmt := topS 4
abbrev N_leaves_at : List Str := ["many", "depth"]
theorem sc_leaves_at : FnScope N_leaves_at ["many", "depth"] (defScope s_leaves_at) := ⟨rfl, rfl, rfl, by decide +kernel, rfl, by decide +kernel, by decide +kernel⟩
abbrev s__law_deck : Stmt := topS 6
abbrev N__law_deck : List Str := ["_law_script", "_law_cells", "_law_mixed", "_law_cell"]
theorem sc__law_deck : FnScope N__law_deck ["_law_script"] (defScope s__law_deck) := ⟨rfl, rfl, rfl, by decide +kernel, rfl, by decide +kernel, by decide +kernel⟩
abbrev s__law_draw : Stmt := topS 7
abbrev N__law_draw : List Str := ["_law_deck_here", "_law_much", "_law_turn", "_law_made", "_law_cell"]
theorem sc__law_draw : FnScope N__law_draw ["_law_deck_here", "_law_much"] (defScope s__law_draw) := ⟨rfl, rfl, rfl, by decide +kernel, rfl, by decide +kernel, by decide +kernel⟩
abbrev s__law_pick : Stmt := topS 8
abbrev N__law_pick : List Str := ["_law_deck_here", "_law_some"]
theorem sc__law_pick : FnScope N__law_pick ["_law_deck_here", "_law_some"] (defScope s__law_pick) := ⟨rfl, rfl, rfl, by decide +kernel, rfl, by decide +kernel, by decide +kernel⟩
abbrev s__law_tosses : Stmt := topS 9
abbrev N__law_tosses : List Str := ["_law_deck_here", "_law_limit", "_law_much", "_law_lean", "_law_k"]
theorem sc__law_tosses : FnScope N__law_tosses ["_law_deck_here", "_law_limit"] (defScope s__law_tosses) := ⟨rfl, rfl, rfl, by decide +kernel, rfl, by decide +kernel, by decide +kernel⟩
abbrev s__law_twos : Stmt := topS 10
abbrev N__law_twos : List Str := ["_law_much", "_law_found", "_law_k"]
theorem sc__law_twos : FnScope N__law_twos ["_law_much"] (defScope s__law_twos) := ⟨rfl, rfl, rfl, by decide +kernel, rfl, by decide +kernel, by decide +kernel⟩
abbrev s__law_many : Stmt := topS 11
abbrev N__law_many : List Str := ["_law_deck_here", "_law_near", "_law_great", "_law_far"]
theorem sc__law_many : FnScope N__law_many ["_law_deck_here"] (defScope s__law_many) := ⟨rfl, rfl, rfl, by decide +kernel, rfl, by decide +kernel, by decide +kernel⟩
abbrev s__law_due : Stmt := topS 12
abbrev N__law_due : List Str := ["_law_much", "_law_flips", "_law_places", "_law_place", "_law_power", "_law_level", "_law_leaves"]
theorem sc__law_due : FnScope N__law_due ["_law_much", "_law_flips"] (defScope s__law_due) := ⟨rfl, rfl, rfl, by decide +kernel, rfl, by decide +kernel, by decide +kernel⟩
abbrev s__law_right : Stmt := topS 13
abbrev N__law_right : List Str := ["_law_deck_here", "_law_much", "_law_flips", "_law_due_here", "_law_at", "_law_go"]
theorem sc__law_right : FnScope N__law_right ["_law_deck_here", "_law_much", "_law_flips"] (defScope s__law_right) := ⟨rfl, rfl, rfl, by decide +kernel, rfl, by decide +kernel, by decide +kernel⟩
abbrev s_law : Stmt := topS 14
abbrev N_law : List Str := ["_law_script", "_law_deck_here", "_law_turn", "_law_much", "_law_flips", "_law_level", "_law_power", "_law_leaves", "_law_due_here", "_law_told"]
theorem sc_law : FnScope N_law ["_law_script"] (defScope s_law) := ⟨rfl, rfl, rfl, by decide +kernel, rfl, by decide +kernel, by decide +kernel⟩
structure Txt (mg : Str → Option Value) : Prop where
  enumerate : mg "enumerate" = none
  int : mg "int" = none
  len : mg "len" = none
  list : mg "list" = none
  range : mg "range" = none
  repr : mg "repr" = none
section
variable {P : Program} {w : World} {K : PySem.W.Frag} {mg : Str → Option Value} {base : Heap}

def spDraw : Sp := fun vs H Q _ => ∃ (d l : Addr) (c : Nat) (k : Int), vs = [.ref d, .int k] ∧ Deck H d l c ∧ c < 1000000 ∧ 0 < k ∧ k < 1073741824 ∧
  ∀ (r : Int) (H2 : Hp), 0 ≤ r → r < k → Deck H2 d l (c + 1) → Kept d l H H2 → Q (.int r) H2
theorem ok_draw {f : Addr} {fd : FuncData} (F : Fun K "_law_draw" "_law_draw" s__law_draw f fd) (T : Txt mg) : GFn P w K mg base CX0 1 f fd ["_law_deck_here", "_law_much"] spDraw := by
  refine gfun_ok F sc__law_draw (fun vs H Q E h => ?_) (fun cdv A outer s H vs Q E hgu hr h => ?_)
  · obtain ⟨d, l, c, k, rfl, _⟩ := h
    rfl
  · obtain ⟨d, l, c, k, rfl, D, hc, k0, k1', q⟩ := h
    have nd := sc__law_draw.nd
    refine ⟨_, (pss_cons (ps_dput (hu_of hr) (pv 0) pe_str (pe_op op_add (pe_dget (hu_of hr) (pv 0) pe_str (fun _ _ => rfl)) pe_int) rfl)
      (pss_cons (ps_par (i := 2) (j := 3) rfl nd rfl rfl (by decide) rfl rfl (pa_cons (pe_dget (hu_of hr) (pv 0) pe_str (fun _ _ => rfl)) (pa_cons (pe_dget (hu_of hr) (pv 0) pe_str (fun _ _ => rfl)) pa_nil)) (by rfl))
      (C8.pss_cut (ps_if (pt_cmpR (k_neD (K := K) hr.units) (pe_dget (hu_of hr) (pv 0) pe_str (fun _ _ => rfl)) (pe_lst pa_nil) (nomark _)) (pss_cons (ps_set (i := 4) nd rfl (Or.inl rfl) (pe_bm0 PySem.F.plainAttrs_list PySem.F.slot_list_pop PySem.F.type_list_pop mt_pop (pe_dget (hu_of hr) (pv 0) pe_str (fun _ _ => rfl))))
      (pss_cons (ps_if (pt_cmpR op_ge (pv 4) (pe_op op_pow pe_int pe_int) (nomark _)) (pss_cons (ps_expr (pe_bm PySem.F.plainAttrs_list PySem.F.slot_list_append PySem.F.type_list_append mt_append (pe_dget (hu_of hr) (pv 0) pe_str (fun _ _ => rfl)) (pa_cons (pe_op op_fdiv (pv 4) (pv 1)) pa_nil)))
      (pss_one (ps_ret (pe_op op_mod (pe_callTy call_int1 (by rfl) T.int (by decide +kernel) (pa_cons (pv 4) pa_nil)) (pv 1))))) pss_nil)
      (pss_one (ps_set (i := 3) nd rfl (Or.inl rfl) (pe_op op_add (pv 3) (pe_op op_mod (pe_callTy call_int1 (by rfl) T.int (by decide +kernel) (pa_cons (pv 4) pa_nil)) pe_int)))))) pss_nil)
      (pss_cons (ps_set (i := 3) nd rfl (Or.inl rfl) (pe_op op_mod (pe_callTy call_int1 (by rfl) T.int (by decide +kernel) (pa_cons (pe_op op_add (pe_op op_add (pv 3) (pe_op op_mul (pe_op op_mul pe_int (pv 2)) (pv 2))) pe_int) pa_nil)) pe_int))
      (pss_cons (ps_set (i := 3) nd rfl (Or.inl rfl) (pe_op op_mod (pe_callTy call_int1 (by rfl) T.int (by decide +kernel) (pa_cons (pe_op op_mul (pv 3) pe_int) pa_nil)) pe_int))
      (pss_cons (ps_set (i := 3) nd rfl (Or.inl rfl) (pe_op op_mod (pe_callTy call_int1 (by rfl) T.int (by decide +kernel) (pa_cons (pe_op op_add (pe_op op_add (pe_op op_mul (pv 3) (pv 3)) (pe_op op_mul pe_int (pv 2))) pe_int) pa_nil)) pe_int))
      (pss_one (ps_ret (pe_op op_mod (pe_op op_fdiv (pe_op op_mod (pe_callTy call_int1 (by rfl) T.int (by decide +kernel) (pa_cons (pe_op op_mul (pv 3) pe_int) pa_nil)) pe_int) pe_int) (pv 1)))))))))), ?_⟩
    obtain ⟨cs, m, n, hd, hl, hm, hn, hcs⟩ := D
    have dl : d ≠ l := ne_of hd hl nofun
    -- the count goes on
    refine ⟨_, rfl, d, _, rfl, dgDraws hd, _, _, rfl, rfl, _, rfl, d, _, rfl, dpDraws (n + 1) hd, ?_⟩
    have hd1 : upd H d (.dK (deckO l m (n + 1))) d = some (.dK (deckO l m (n + 1))) := upd_same
    have hl1 : upd H d (.dK (deckO l m (n + 1))) l = some (.lst (cs.map V.int)) := by rw [upd_ne dl.symm]; exact hl
    have k1 : Kept d l H (upd H d (.dK (deckO l m (n + 1)))) := fun b o e h1 _ => by rw [upd_ne h1]; exact e
    generalize upd H d (.dK (deckO l m (n + 1))) = H1 at hd1 hl1 k1 ⊢
    refine ⟨_, rfl, d, _, rfl, dgDraws hd1, _, rfl, d, _, rfl, dgMixed hd1, _, _, rfl, ?_⟩
    -- the cell that is left, if there is one; behind it what stands
    refine ⟨fun σ' H' => ∃ (x : Int) (y4 : Option V), σ' = [some (.ref d), some (.int k), some (.int (n + 1)), some (.int x), y4] ∧ Kept d l H H' ∧ H' d = some (.dK (deckO l m (n + 1))) ∧ ∃ cs2 : List Int, H' l = some (.lst (cs2.map V.int)) ∧ cs2.length ≤ 63, ?_, ?_⟩
    · refine ⟨_, rfl, d, _, rfl, dgCells hd1, ?_⟩
      refine ⟨Nat.zero_le _, fun p np => ?_⟩
      have hd2 : upd H1 p (.lst []) d = some (.dK (deckO l m (n + 1))) := by rw [upd_ne (ne_of_none hd1 np)]; exact hd1
      have hl2 : upd H1 p (.lst []) l = some (.lst (cs.map V.int)) := by rw [upd_ne (ne_of_none hl1 np)]; exact hl1
      have k2 : Kept d l H (upd H1 p (.lst [])) := k1.trans (.of (same_new np))
      refine ⟨.list (dI cs), .list [], .lst (SqL.of hl2) (dpInts cs), .lst (SqL.of upd_same) .nil, shI cs, rfl, ?_⟩
      generalize upd H1 p (.lst []) = H2 at hd2 hl2 k2 ⊢
      refine ⟨!cs.isEmpty, by rw [eqvI_nil], ?_⟩
      rcases List.eq_nil_or_concat cs with rfl | ⟨c0, z, rfl⟩
      · exact iteF ⟨m, none, rfl, k2, hd2, [], hl2, by simp⟩
      · rw [List.concat_eq_append] at hl2 hcs ⊢
        refine ifT (by simp) ?_
        have hl3 : upd H2 l (.lst (c0.map V.int)) l = some (.lst (c0.map V.int)) := upd_same
        have hd3 : upd H2 l (.lst (c0.map V.int)) d = some (.dK (deckO l m (n + 1))) := by rw [upd_ne dl]; exact hd2
        have k3 : Kept d l H (upd H2 l (.lst (c0.map V.int))) := k2.trans fun b o e _ h2 => by rw [upd_ne h2]; exact e
        have el : ((c0 ++ [z]).map V.int).dropLast = c0.map V.int := by simp
        have ey : ((c0 ++ [z]).map V.int)[((c0 ++ [z]).map V.int).length - 1]? = some (.int z) := by simp
        -- the last cell is taken
        refine ⟨_, rfl, d, _, rfl, dgCells hd2, .inl ⟨rfl, _, SqL.of hl2⟩, l, _, _, rfl, rfl, hl2, ey, ?_⟩
        rw [el]
        generalize upd H2 l (.lst (c0.map V.int)) = H3 at hd3 hl3 k3 ⊢
        refine ⟨_, rfl, _, _, rfl, rfl, ⟨by decide, by decide, by decide⟩, _, _, rfl, rfl, _, rfl, ite2 (fun _ => ?_) (fun _ => ?_)⟩
        · refine ⟨_, rfl, d, _, rfl, dgCells hd3, .inl ⟨rfl, _, SqL.of hl3⟩, _, rfl, _, rfl, _, _, rfl, rfl, ⟨k0, k1'⟩, l, _, _, rfl, rfl, hl3, ?_, ?_⟩
          · rw [List.length_map]
            exact Nat.lt_of_lt_of_le (Nat.lt_succ_of_le (by simp at hcs; omega : c0.length ≤ 62)) (by decide)
          · have k4 : Kept d l H (upd H3 l (.lst (c0.map V.int ++ [.int (z / k)]))) := k3.trans fun b o e _ h2 => by rw [upd_ne h2]; exact e
            refine ⟨_, rfl, .inl ⟨_, rfl, _, rfl, _, _, rfl, rfl, k0, ?_⟩⟩
            refine q _ _ (mod_lo k0) (mod_hi k0) ⟨c0 ++ [z / k], m, n + 1, by rw [upd_ne dl]; exact hd3, by rw [upd_same, List.map_append]; rfl, hm, ⟨by omega, by omega⟩, ?_⟩ k4
            simp at hcs ⊢
            omega
        · refine ⟨_, rfl, _, rfl, .inl ⟨_, rfl, _, _, rfl, rfl, (by show (0 : Int) < _; decide), _, _, rfl, rfl, ?_⟩⟩
          exact ⟨m + z % 2147483629, some (.int z), rfl, k3, hd3, c0, hl3, by simp at hcs; omega⟩
    · rintro σ' H3 ⟨x, y4, rfl, k3, h3, cs2, h4, h5⟩
      have t1 : 0 < n + 1 := by omega
      have t2 : n + 1 ≤ 1000000 := by omega
      have t3 : n + 1 ≤ ((c + 1 : Nat) : Int) := by omega
      generalize n + 1 = t at t1 t2 t3 h3 ⊢
      refine ⟨_, rfl, _, rfl, _, _, rfl, rfl, .inl (by omega), _, rfl, _, _, rfl, rfl, .inl (by omega), _, _, rfl, rfl, _, _, rfl, rfl, .inl ⟨_, rfl, _, _, rfl, rfl, (by show (0 : Int) < _; decide), ?_⟩⟩
      have w0 := mod_lo (a := x + 60497 * t * t + 539) (b := 2147483629) (by decide)
      have w1 := mod_hi (a := x + 60497 * t * t + 539) (b := 2147483629) (by decide)
      generalize (x + 60497 * t * t + 539) % 2147483629 = g at w0 w1 ⊢
      refine ⟨_, rfl, _, _, rfl, rfl, .inl (by omega), .inl ⟨_, rfl, _, _, rfl, rfl, (by show (0 : Int) < _; decide), ?_⟩⟩
      have x0 := mod_lo (a := g * 40692) (b := 2147483647) (by decide)
      have x1 := mod_hi (a := g * 40692) (b := 2147483647) (by decide)
      generalize g * 40692 % 2147483647 = e at x0 x1 ⊢
      refine ⟨_, rfl, _, rfl, _, _, rfl, rfl, .inl (by omega), _, rfl, _, _, rfl, rfl, .inl (by omega), _, _, rfl, rfl, _, _, rfl, rfl, .inl ⟨_, rfl, _, _, rfl, rfl, (by show (0 : Int) < _; decide), ?_⟩⟩
      have y0 := mod_lo (a := e * e + 69621 * t + 546) (b := 2147483587) (by decide)
      have y1 := mod_hi (a := e * e + 69621 * t + 546) (b := 2147483587) (by decide)
      generalize (e * e + 69621 * t + 546) % 2147483587 = j at y0 y1 ⊢
      refine ⟨_, rfl, _, _, rfl, rfl, .inl (by omega), .inl ⟨_, rfl, _, _, rfl, rfl, (by show (0 : Int) < _; decide), _, _, rfl, rfl, ⟨by decide, by decide⟩, _, rfl, _, _, rfl, rfl, k0, ?_⟩⟩
      exact q _ _ (mod_lo k0) (mod_hi k0) ⟨cs2, m, t, h3, h4, hm, ⟨by omega, t3⟩, h5⟩ k3
end
end SG

namespace SG
open PySem PySem.Spec PyProof.Rows L2
section
variable {P : Program} {w : World} {K : PySem.W.Frag} {mg : Str → Option Value} {base : Heap}

def spDeck (K : PySem.W.Frag) : Sp := fun vs H Q _ => ∃ (a : Addr) (ns : List Int), vs = [.ref a] ∧ SqL K H a (ns.map V.int) ∧ ns.length ≤ 63 ∧
  ∀ (d l : Addr) (H2 : Hp), Deck H2 d l 0 → Same H H2 → Q (.ref d) H2
theorem ok_deck {f : Addr} {fd : FuncData} (F : Fun K "_law_deck" "_law_deck" s__law_deck f fd) (T : Txt mg) : GFn P w K mg base CX0 1 f fd ["_law_script"] (spDeck K) := by
  refine gfun_ok F sc__law_deck (fun vs H Q E h => ?_) (fun cdv A outer s H vs Q E hgu hr h => ?_)
  · obtain ⟨a, ns, rfl, _⟩ := h
    rfl
  · obtain ⟨a, ns, rfl, hS, hlen, q⟩ := h
    have nd := sc__law_deck.nd
    refine ⟨_, (pss_cons (ps_par (i := 1) (j := 2) rfl nd rfl rfl (by decide) rfl rfl (pa_cons (pe_callTy (k_listOf (K := K)) (by rfl) T.list (by decide +kernel) (pa_cons (pe_slice (k_slL (K := K)) (pv 0) po_none (po_some pe_int)) pa_nil)) (pa_cons pe_int pa_nil)) (by rfl))
      (pss_cons (ps_for PassesOwn.never rfl (pi_list (pv 1)) (pg_name (i := 3) nd rfl (Or.inl rfl))
        (pss_one (ps_set (i := 2) nd rfl (Or.inl rfl) (pe_op op_mod (pe_callTy call_int1 (by rfl) T.int (by decide +kernel) (pa_cons (pe_op op_add (pe_op op_add (pe_op op_mul (pv 2) pe_int) (pe_op op_mod (pe_callTy call_int1 (by rfl) T.int (by decide +kernel) (pa_cons (pv 3) pa_nil)) pe_int)) pe_int) pa_nil)) pe_int))))
      (pss_one (ps_ret (pe_disp (pps_cons pe_str (k_rev (K := K) (pv 1)) (pps_cons pe_str (pv 2) (pps_cons pe_str pe_int pps_nil))) (by rfl) (by rfl) (fun z => by cases z) (by decide)))))), ?_⟩
    -- the script's copy
    refine ⟨.ref a, rfl, 63, rfl, a, _, rfl, hS, fun p np => ?_⟩
    have s1 : Same H (upd H p (.lst (cutV (ns.map V.int) none (some 63)))) := same_new np
    have e1 : cutV (ns.map V.int) none (some 63) = ns.map V.int := by
      unfold cutV
      rw [HT.sIx_none, show HT.sIx (ns.map V.int).length (ns.map V.int).length (some 63) = min 63 (ns.map V.int).length from HT.sIx_nat _ _ 63]
      rw [show min 63 (ns.map V.int).length = (ns.map V.int).length by rw [List.length_map]; omega]
      exact List.take_of_length_le (Nat.le_refl _)
    rw [e1] at s1 ⊢
    refine ⟨p, _, rfl, .inl (SqL.of upd_same), fun l nl => ?_⟩
    have s2 : Same H (upd (upd H p (.lst (ns.map V.int))) l (.lst (ns.map V.int))) := s1.trans (same_new nl)
    have hl : (upd (upd H p (.lst (ns.map V.int))) l (.lst (ns.map V.int))) l = some (.lst (ns.map V.int)) := upd_same
    generalize (upd (upd H p (.lst (ns.map V.int))) l (.lst (ns.map V.int))) = H1 at s2 hl ⊢
    refine ⟨_, _, rfl, ?_⟩
    -- the figure
    refine ⟨_, rfl, l, rfl, ⟨_, SqL.of hl⟩, for_list (K := K) (a := l) (xs := ns.map V.int) (fun i σ H2 => ∃ (m : Int) (y : Option V), σ = [some (.ref a), some (.ref l), some (.int m), y] ∧ (0 ≤ m ∧ m < 2147483648) ∧ H2 = H1)
      ⟨1086539, none, rfl, ⟨by decide, by decide⟩, rfl⟩ (fun i σ H2 _ ⟨_, _, _, _, e⟩ => e ▸ SqL.of hl) ?_ ?_⟩
    · rintro i y σ H2 hi ⟨m, y3, rfl, hm, rfl⟩
      obtain ⟨z, rfl⟩ : ∃ z, y = V.int z := by
        rw [List.getElem?_map] at hi
        obtain ⟨z, _, e⟩ := Option.map_eq_some_iff.mp hi
        exact ⟨z, e.symm⟩
      have u0 := mod_lo (a := z) (b := 2147483629) (by decide)
      have u1 := mod_hi (a := z) (b := 2147483629) (by decide)
      refine ⟨_, rfl, _, _, rfl, rfl, .inl (by omega), _, rfl, .inl ⟨_, rfl, _, _, rfl, rfl, (by show (0 : Int) < _; decide), _, _, rfl, rfl, _, _, rfl, rfl, .inl ⟨_, rfl, _, _, rfl, rfl, (by show (0 : Int) < _; decide), ?_⟩⟩⟩
      exact ⟨_, _, rfl, ⟨mod_lo (by decide), Int.lt_trans (mod_hi (by decide)) (by decide)⟩, rfl⟩
    · rintro σ H2 ⟨m, y3, rfl, hm, rfl⟩
      -- the deck
      refine fun d nd1 => ?_
      have t2 : Same H (upd H2 d (.dK [])) := s2.trans (same_new nd1)
      have hl3 : (upd H2 d (.dK [])) l = some (.lst (ns.map V.int)) := by rw [upd_ne (ne_of_none hl nd1)]; exact hl
      have hd3 : (upd H2 d (.dK [])) d = some (.dK []) := upd_same
      generalize upd H2 d (.dK []) = H3 at t2 hl3 hd3 ⊢
      refine ⟨.ref l, rfl, l, _, rfl, SqL.of hl3, fun r nr => ?_⟩
      have t4 : Same H (upd H3 r (.lst (ns.map V.int).reverse)) := t2.trans (same_new nr)
      have hd4 : (upd H3 r (.lst (ns.map V.int).reverse)) d = some (.dK []) := by rw [upd_ne (ne_of_none hd3 nr)]; exact hd3
      have hr4 : (upd H3 r (.lst (ns.map V.int).reverse)) r = some (.lst (ns.reverse.map V.int)) := by rw [upd_same, List.map_reverse]
      have nd0 : H d = none := s2.free nd1
      have nr0 : r ≠ d := (ne_of_none hd3 nr).symm
      generalize upd H3 r (.lst (ns.map V.int).reverse) = H4 at t4 hd4 hr4 ⊢
      refine ⟨_, rfl, hd4, deckO r m 0, rfl, (by show 3 ≤ 15; decide), ?_⟩
      rw [deck_made]
      refine q d r _ ⟨ns.reverse, m, 0, upd_same, by rw [upd_ne nr0]; exact hr4, hm, ⟨by decide, by decide⟩, by rw [List.length_reverse]; exact hlen⟩ fun b o e => ?_
      rw [upd_ne (ne_of_none e nd0)]
      exact t4 _ _ e

/-- one of a list's, a sign of a text -/
def spPick (K : PySem.W.Frag) : Sp := fun vs H Q _ => ∃ (d l : Addr) (c : Nat), Deck H d l c ∧ c < 1000000 ∧
  ((∃ (a : Addr) (xs : List V), vs = [.ref d, .ref a] ∧ SqL K H a xs ∧ a ≠ l ∧ xs ≠ [] ∧ xs.length ≤ 1000 ∧ ∀ (x : V) (H2 : Hp), x ∈ xs → Deck H2 d l (c + 1) → Kept d l H H2 → Q x H2) ∨
   (∃ z : Str, vs = [.ref d, .str z] ∧ 0 < z.length ∧ z.length ≤ 1000 ∧ ∀ (g : Nat) (H2 : Hp), g ∈ z.cps.toList → Deck H2 d l (c + 1) → Kept d l H H2 → Q (.str ⟨#[g]⟩) H2))
theorem ok_pick {f f1 : Addr} {fd fd1 : FuncData} (F : Fun K "_law_pick" "_law_pick" s__law_pick f fd) (F__law_draw : Fun K "_law_draw" "_law_draw" s__law_draw f1 fd1) (m__law_draw : mg "_law_draw" = some (.ref f1)) (b__law_draw : Binds K fd1 ["_law_deck_here", "_law_much"] []) (T : Txt mg) : GFn P w K mg base CX0 2 f fd ["_law_deck_here", "_law_some"] (spPick K) := by
  have G__law_draw : GFn P w K mg base CX0 1 f1 fd1 ["_law_deck_here", "_law_much"] spDraw := ok_draw F__law_draw T
  refine gfun_ok F sc__law_pick (fun vs H Q E h => ?_) (fun cdv A outer s H vs Q E hgu hr h => ?_)
  · obtain ⟨d, l, c, D, hc, ⟨a, xs, rfl, _⟩ | ⟨z, rfl, _⟩⟩ := h
    · rfl
    · rfl
  · obtain ⟨d, l, c, D, hc, h⟩ := h
    have nd := sc__law_pick.nd
    refine ⟨_, (pss_one (ps_ret (pe_ix (k_ix (K := K)) (pv 1) (pe_g G__law_draw hgu (hr.mono (by decide)) (by rfl) m__law_draw F__law_draw.kp b__law_draw .nil pass0 (pa_cons (pv 0) (pa_cons (pe_callB call_len (by rfl) T.len (by decide +kernel) (pa_cons (pv 1) pa_nil)) pa_nil))) (fun _ _ => rfl)))), ?_⟩
    rcases h with ⟨a, xs, rfl, hS, al, ne, hlen, q⟩ | ⟨z, rfl, z0, z1, q⟩
    · have pos : 0 < xs.length := List.length_pos_iff.mpr ne
      refine ⟨_, rfl, _, rfl, _, rfl, _, _, rfl, .inl ⟨xs, hS, rfl⟩, d, l, c, _, rfl, D, hc, by omega, by omega, fun r H2 r0 r1 D2 k2 => ?_⟩
      have hS2 := k2.lst D al hS
      obtain ⟨i, rfl⟩ : ∃ i : Nat, r = (i : Int) := ⟨r.toNat, by omega⟩
      have hi : i < xs.length := by omega
      exact .inl ⟨a, xs, i, xs[i], rfl, rfl, hS2, atI_nat (List.getElem?_eq_getElem hi), q _ _ (List.getElem_mem hi) D2 k2⟩
    · have ez : z.cps.toList.length = z.length := by simp [Str.length]
      have sz : z.length ≤ sizeLine := Nat.le_of_lt (small1000 z1)
      refine ⟨_, rfl, _, rfl, _, rfl, _, _, rfl, ⟨sz, rfl⟩, d, l, c, _, rfl, D, hc, by omega, by omega, fun r H2 r0 r1 D2 k2 => ?_⟩
      obtain ⟨i, rfl⟩ : ∃ i : Nat, r = (i : Int) := ⟨r.toNat, by omega⟩
      have hi : i < z.cps.toList.length := by omega
      exact .inr (.inr ⟨z, i, z.cps.toList[i], rfl, rfl, sz, atI_nat (List.getElem?_eq_getElem hi), q _ _ (List.getElem_mem hi) D2 k2⟩)
end
end SG

namespace SG
open PySem PySem.Spec PyProof.Rows L2 TL
open SX (S S_tl S_len)
section
variable {P : Program} {w : World} {K : PySem.W.Frag} {mg : Str → Option Value} {base : Heap}
def isBit (g : Nat) : Prop := g = 48 ∨ g = 49
def spTosses (K : PySem.W.Frag) : Sp := fun vs H Q _ => ∃ (d l : Addr) (c n : Nat), vs = [.ref d, .int n] ∧ Deck H d l c ∧ c < 900000 ∧ n ≤ 400 ∧
  ∀ (gs : List Nat) (H2 : Hp), gs.length ≤ n → (∀ g ∈ gs, isBit g) → Deck H2 d l (c + n + 2) → Kept d l H H2 → Q (.str (S gs)) H2
theorem ok_tosses {f f1 f2 : Addr} {fd fd1 fd2 : FuncData} (F : Fun K "_law_tosses" "_law_tosses" s__law_tosses f fd) (F__law_draw : Fun K "_law_draw" "_law_draw" s__law_draw f1 fd1) (m__law_draw : mg "_law_draw" = some (.ref f1)) (b__law_draw : Binds K fd1 ["_law_deck_here", "_law_much"] [])
    (F__law_pick : Fun K "_law_pick" "_law_pick" s__law_pick f2 fd2) (m__law_pick : mg "_law_pick" = some (.ref f2)) (b__law_pick : Binds K fd2 ["_law_deck_here", "_law_some"] []) (T : Txt mg) : GFn P w K mg base CX0 3 f fd ["_law_deck_here", "_law_limit"] (spTosses K) := by
  have G__law_draw : GFn P w K mg base CX0 1 f1 fd1 ["_law_deck_here", "_law_much"] spDraw := ok_draw F__law_draw T
  have G__law_pick : GFn P w K mg base CX0 2 f2 fd2 ["_law_deck_here", "_law_some"] (spPick K) := ok_pick F__law_pick F__law_draw m__law_draw b__law_draw T
  refine gfun_ok F sc__law_tosses (fun vs H Q E h => ?_) (fun cdv A outer s H vs Q E hgu hr h => ?_)
  · obtain ⟨d, l, c, n, rfl, _⟩ := h
    rfl
  · obtain ⟨d, l, c, n, rfl, D, hc, hn, q⟩ := h
    have nd := sc__law_tosses.nd
    refine ⟨_, (pss_cons (ps_asg (pe_tup (pa_cons (pe_g G__law_draw hgu (hr.mono (by decide)) (by rfl) m__law_draw F__law_draw.kp b__law_draw .nil pass0 (pa_cons (pv 0) (pa_cons (pe_op op_add (pv 1) pe_int) pa_nil))) (pa_cons (pe_g G__law_draw hgu (hr.mono (by decide)) (by rfl) m__law_draw F__law_draw.kp b__law_draw .nil pass0 (pa_cons (pv 0) (pa_cons pe_int pa_nil))) pa_nil))) (k_tg (K := K) (n := 2) rfl (pgs_cons (pg_name (i := 2) nd rfl (Or.inl rfl)) (pgs_cons (pg_name (i := 3) nd rfl (Or.inr rfl)) pgs_nil))))
      (pss_one (ps_ret (k_join (K := K) pe_str (pe_lc (own := [("_law_k", 4)]) rfl nd (pi_range1 rfl T.range (pa_cons (pv 2) pa_nil)) (blkOk_by (N := N__law_tosses) (sc := defScope s__law_tosses) (by decide +kernel)) (fun _ _ _ _ _ => (pg_name (i := 4) nd rfl (Or.inl rfl))) (fun _ _ _ _ _ => pts_nil) (fun _ _ _ _ _ => (pe_ifExp (PW.pt (pw_and (pt_cmpR op_eq (pv 3) pe_int (nomark _)) (pw_and1 (pt_cmpR op_gt (pe_op op_mod (pv 4) pe_int) pe_int (nomark _))))) pe_str (pe_g G__law_pick hgu (hr.mono (by decide)) (by rfl) m__law_pick F__law_pick.kp b__law_pick .nil pass0 (pa_cons (pv 0) (pa_cons pe_str pa_nil)))))))))), ?_⟩
    refine ⟨_, rfl, _, rfl, _, _, rfl, rfl, d, l, c, _, rfl, D, by omega, by omega, by omega, fun m H1 m0 m1 D1 k1 => ⟨_, rfl, d, l, c + 1, 4, rfl, D1, by omega, by decide, by decide, fun e H2 e0 e1 D2 k2 => ?_⟩⟩
    refine ⟨by show 2 ≤ sizeLine; decide, fun t nt => ⟨t, _, rfl, .inl (.inl upd_same), rfl, _, _, rfl, _, _, rfl, rfl, ?_⟩⟩
    have D3 := D2.upd (o := .tup [.int m, .int e]) nt
    have k3 : Kept d l H _ := (k1.trans k2).trans (.of (same_new (o := .tup [.int m, .int e]) nt))
    refine ⟨⟨_, rfl⟩, _, rfl, m, rfl, by omega, by omega, fun D nD => ?_⟩
    refine lc_drawsV (B := fun x => ∃ g, isBit g ∧ x = .str ⟨#[g]⟩) D3 nD (by omega) (fun i H4 hi D4 k4 R hR => ?_) (fun xs H4 hx hB he D4 k4 => ?_)
    · have pick : ∀ σ : L2.St, σ[0]? = some (some (.ref d)) → tCall (spPick K) [] E0 (tCons (tVar 0) (tCons (tC (.str "01")) tNil)) σ H4 R := fun σ eσ =>
        ⟨_, eσ, d, l, _, D4, by omega, .inr ⟨"01", rfl, by decide +kernel, by decide +kernel, fun g H5 hg D5 k5 => hR _ H5 ⟨g, by
          have : g = 48 ∨ g = 49 := by simpa using (show g ∈ [48, 49] from hg)
          exact this, rfl⟩ D5 k5⟩⟩
      have one : R (.str "1") H4 := hR (.str "1") H4 ⟨49, .inr rfl, rfl⟩ (D4.mono (by omega)) (Kept.refl _ _ _)
      refine ⟨_, rfl, rfl, _, rfl, ite2 (fun _ => ?_) (fun _ => iteF (pick _ rfl))⟩
      refine ⟨_, rfl, _, _, rfl, rfl, by show (0 : Int) < 7; decide, _, _, rfl, rfl, _, rfl, ite2 (fun _ => one) (fun _ => pick _ rfl)⟩
    · obtain ⟨gs, rfl, hg⟩ := signs_of hB
      have hl : gs.length = m.toNat := by simpa using hx
      refine ⟨_, D, _, rfl, rfl, .inl (SqL.of he), ?_, ?_⟩
      · rw [sum_ones]
        simp only [List.length_map]
        show gs.length + gs.length * 0 ≤ _
        omega
      · rw [join_signs]
        exact q gs H4 (by omega) hg (D4.mono (by omega)) (k3.trans k4)
end
end SG

/-! Drawing among a number of things: plain mathematics. -/
namespace SG
inductive Out where
  | drawn (place level : Int)
  | opened (places place : Int)
def leavesOf (m pw : Int) : Int := if pw / m % 2 = 1 then m else 0
/-- going on from a depth: places, the own place, the power of 2, the depth, the tosses that are left -/
def dueF (m : Int) : Int → Int → Int → Int → List Int → Out
  | ps, p, pw, lv, [] => if p < leavesOf m pw then .drawn p lv else .opened (ps - leavesOf m pw) (p - leavesOf m pw)
  | ps, p, pw, lv, b :: bs => if p < leavesOf m pw then .drawn p lv else dueF m (2 * (ps - leavesOf m pw)) (2 * (p - leavesOf m pw) + b) (2 * pw) (lv + 1) bs
def due (m : Int) (bs : List Int) : Out := dueF m 1 0 1 0 bs
/-- what is drawn doesn't hang on what comes behind -/
theorem dueF_drawn {m : Int} : ∀ (bs : List Int) {ps p pw lv x y : Int}, dueF m ps p pw lv bs = .drawn x y → ∃ n : Nat, y = lv + n ∧ n ≤ bs.length ∧ (∀ cs, dueF m ps p pw lv (bs.take n ++ cs) = .drawn x y) ∧ (∀ k, k < n → ∃ u v, dueF m ps p pw lv (bs.take k) = .opened u v)
  | [], ps, p, pw, lv, x, y, h => by
    unfold dueF at h
    split at h
    · rename_i h0
      injection h with h1 h2
      refine ⟨0, by omega, Nat.le_refl _, fun cs => ?_, fun k hk => absurd hk (Nat.not_lt_zero _)⟩
      subst h1 h2
      cases cs with
      | nil => simp [dueF, h0]
      | cons c cs => simp [dueF, h0]
    · cases h
  | b :: bs, ps, p, pw, lv, x, y, h => by
    unfold dueF at h
    split at h
    · rename_i h0
      injection h with h1 h2
      refine ⟨0, by omega, Nat.zero_le _, fun cs => ?_, fun k hk => absurd hk (Nat.not_lt_zero _)⟩
      subst h1 h2
      cases cs with
      | nil => simp [dueF, h0]
      | cons c cs => simp [dueF, h0]
    · rename_i h0
      obtain ⟨n, h1, h2, h3, h4⟩ := dueF_drawn bs h
      refine ⟨n + 1, by omega, Nat.succ_le_succ h2, fun cs => ?_, fun k hk => ?_⟩
      · show dueF m ps p pw lv (b :: (bs.take n ++ cs)) = _
        unfold dueF
        rw [if_neg h0]
        exact h3 cs
      · cases k with
        | zero =>
          refine ⟨ps - leavesOf m pw, p - leavesOf m pw, ?_⟩
          show dueF m ps p pw lv [] = _
          unfold dueF
          rw [if_neg h0]
        | succ k =>
          obtain ⟨u, v, e⟩ := h4 k (Nat.lt_of_succ_lt_succ hk)
          refine ⟨u, v, ?_⟩
          show dueF m ps p pw lv (b :: bs.take k) = _
          unfold dueF
          rw [if_neg h0]
          exact e
def Out.small (N : Nat) : Out → Prop
  | .drawn x y => x.natAbs ≤ N ∧ y.natAbs ≤ N
  | .opened x y => x.natAbs ≤ N ∧ y.natAbs ≤ N
theorem leavesOf_abs (m pw : Int) : (leavesOf m pw).natAbs ≤ m.natAbs := by
  unfold leavesOf
  split
  · exact Nat.le_refl _
  · simp
theorem dueF_small {m : Int} : ∀ (bs : List Int) {ps p pw lv : Int} {B : Nat}, (∀ b ∈ bs, b.natAbs ≤ 1) → m.natAbs + 1 ≤ B → ps.natAbs ≤ B → p.natAbs ≤ B → lv.natAbs + bs.length ≤ B → (dueF m ps p pw lv bs).small (4 ^ (bs.length + 1) * B)
  | [], ps, p, pw, lv, B, hb, h0, h1, h2, h3 => by
    have l := leavesOf_abs m pw
    unfold dueF
    show Out.small (4 ^ 1 * B) _
    simp at h3
    split
    · exact ⟨by omega, by omega⟩
    · exact ⟨by omega, by omega⟩
  | b :: bs, ps, p, pw, lv, B, hb, h0, h1, h2, h3 => by
    have l := leavesOf_abs m pw
    have b1 := hb b List.mem_cons_self
    have big : B ≤ 4 ^ (bs.length + 1 + 1) * B := Nat.le_mul_of_pos_left B (Nat.pow_pos (by decide))
    rw [List.length_cons] at h3
    unfold dueF
    split
    · exact ⟨by rw [List.length_cons]; omega, by rw [List.length_cons]; omega⟩
    · have z := dueF_small bs (m := m) (ps := 2 * (ps - leavesOf m pw)) (p := 2 * (p - leavesOf m pw) + b) (pw := 2 * pw) (lv := lv + 1) (B := 4 * B) (fun x hx => hb x (List.mem_cons_of_mem _ hx)) (by omega) (by omega) (by omega) (by omega)
      rw [List.length_cons, Nat.pow_succ 4 (bs.length + 1), Nat.mul_assoc]
      exact z
theorem leaves_double {m pw : Int} (hm : 0 < m) : 2 * (pw % m) = 2 * pw % m + leavesOf m (2 * pw) := by
  have a0 := Int.emod_nonneg pw (show m ≠ 0 by omega)
  have a1 := Int.emod_lt_of_pos pw hm
  have a2 := Int.mul_ediv_add_emod pw m
  unfold leavesOf
  by_cases h : 2 * (pw % m) < m
  · have e : 2 * pw = 2 * (pw % m) + m * (2 * (pw / m)) := by
      have : m * (2 * (pw / m)) = 2 * (m * (pw / m)) := by rw [Int.mul_left_comm]
      omega
    have e1 : 2 * pw % m = 2 * (pw % m) := by
      rw [e, Int.add_mul_emod_self_left]
      exact Int.emod_eq_of_lt (by omega) h
    have e2 : 2 * pw / m = 2 * (pw / m) := by
      rw [e, Int.add_mul_ediv_left _ _ (show m ≠ 0 by omega), Int.ediv_eq_zero_of_lt (by omega) h, Int.zero_add]
    rw [e1, e2, if_neg (by omega), Int.add_zero]
  · have e : 2 * pw = (2 * (pw % m) - m) + m * (2 * (pw / m) + 1) := by
      have : m * (2 * (pw / m) + 1) = 2 * (m * (pw / m)) + m := by rw [Int.mul_add, Int.mul_one, Int.mul_left_comm]
      omega
    have e1 : 2 * pw % m = 2 * (pw % m) - m := by
      rw [e, Int.add_mul_emod_self_left]
      exact Int.emod_eq_of_lt (by omega) (by omega)
    have e2 : 2 * pw / m = 2 * (pw / m) + 1 := by
      rw [e, Int.add_mul_ediv_left _ _ (show m ≠ 0 by omega), Int.ediv_eq_zero_of_lt (by omega) (by omega), Int.zero_add]
    rw [e1, e2, if_pos (by omega)]
    omega
theorem dueF_open {m : Int} (hm : 0 < m) : ∀ (bs : List Int) {ps p pw lv x y : Int}, ps = pw % m + leavesOf m pw → dueF m ps p pw lv bs = .opened x y → x = pw * 2 ^ bs.length % m
  | [], ps, p, pw, lv, x, y, hp, h => by
    unfold dueF at h
    split at h
    · cases h
    · injection h with h1 h2
      show x = pw * 1 % m
      rw [Int.mul_one]
      omega
  | b :: bs, ps, p, pw, lv, x, y, hp, h => by
    unfold dueF at h
    split at h
    · cases h
    · have z := dueF_open hm bs (pw := 2 * pw) (by rw [← leaves_double hm]; omega) h
      rw [z, List.length_cons, Int.pow_succ]
      congr 1
      rw [Int.mul_comm 2 pw, Int.mul_assoc, Int.mul_comm 2]
theorem due_open {m : Int} (hm : 0 < m) {bs : List Int} {x y : Int} (h : due m bs = .opened x y) : x = 2 ^ bs.length % m := by
  have e : (1 : Int) = 1 % m + leavesOf m 1 := by
    unfold leavesOf
    by_cases h1 : m = 1
    · subst h1
      decide
    · rw [Int.emod_eq_of_lt (by omega) (by omega), Int.ediv_eq_zero_of_lt (by omega) (by omega)]
      simp
  have z := dueF_open hm bs e h
  rw [z, Int.one_mul]
end SG
namespace SG
/-- the same, places doubled at each toss -/
def drawF (m : Int) : Int → Int → Int → List Int → Out
  | ps, p, _, [] => .opened ps p
  | ps, p, lv, b :: bs => if m ≤ 2 * ps then (if 2 * p + b < m then .drawn (2 * p + b) (lv + 1) else drawF m (2 * ps - m) (2 * p + b - m) (lv + 1) bs) else drawF m (2 * ps) (2 * p + b) (lv + 1) bs
def restF (m ps p pw lv : Int) : List Int → Out
  | [] => .opened ps p
  | c :: cs => dueF m (2 * ps) (2 * p + c) (2 * pw) (lv + 1) cs
theorem dueF_rest {m ps p pw lv : Int} {bs : List Int} : dueF m ps p pw lv bs = if p < leavesOf m pw then .drawn p lv else restF m (ps - leavesOf m pw) (p - leavesOf m pw) pw lv bs := by
  cases bs <;> rfl
theorem restF_drawF {m : Int} (hm : 0 < m) : ∀ (bs : List Int) {p pw lv : Int}, 0 ≤ p → (∀ x ∈ bs, 0 ≤ x) → restF m (pw % m) p pw lv bs = drawF m (pw % m) p lv bs
  | [], p, pw, lv, hp, hb => rfl
  | b :: bs, p, pw, lv, hp, hb => by
    have b0 := hb b List.mem_cons_self
    have l2 := leaves_double (pw := pw) hm
    have h0 := Int.emod_nonneg (2 * pw) (show m ≠ 0 by omega)
    have h1 := Int.emod_lt_of_pos (2 * pw) hm
    have lv2 : leavesOf m (2 * pw) = m ∨ leavesOf m (2 * pw) = 0 := by
      unfold leavesOf
      split
      · exact .inl rfl
      · exact .inr rfl
    have next : ∀ q : Int, 0 ≤ q → restF m (2 * pw % m) q (2 * pw) (lv + 1) bs = drawF m (2 * pw % m) q (lv + 1) bs :=
      fun q hq => restF_drawF hm bs hq fun x hx => hb x (List.mem_cons_of_mem _ hx)
    show dueF m (2 * (pw % m)) (2 * p + b) (2 * pw) (lv + 1) bs = if m ≤ 2 * (pw % m) then (if 2 * p + b < m then .drawn (2 * p + b) (lv + 1) else drawF m (2 * (pw % m) - m) (2 * p + b - m) (lv + 1) bs) else drawF m (2 * (pw % m)) (2 * p + b) (lv + 1) bs
    rw [dueF_rest]
    by_cases h : m ≤ 2 * (pw % m)
    · have e : leavesOf m (2 * pw) = m := by
        rcases lv2 with e | e <;> omega
      have e2 : 2 * (pw % m) - m = 2 * pw % m := by omega
      rw [if_pos h, e, e2]
      by_cases h2 : 2 * p + b < m
      · rw [if_pos h2, if_pos h2]
      · rw [if_neg h2, if_neg h2]
        exact next _ (by omega)
    · have e : leavesOf m (2 * pw) = 0 := by
        rcases lv2 with e | e <;> omega
      have e2 : 2 * (pw % m) = 2 * pw % m := by omega
      rw [if_neg h, e, Int.sub_zero, Int.sub_zero, e2, if_neg (by omega)]
      exact next _ (by omega)
theorem due_one (bs : List Int) : due 1 bs = .drawn 0 0 := by
  cases bs <;> rfl
theorem due_drawF {m : Int} (hm : 1 < m) (bs : List Int) (hb : ∀ x ∈ bs, 0 ≤ x) : due m bs = drawF m 1 0 0 bs := by
  have e : leavesOf m 1 = 0 := by
    unfold leavesOf
    rw [Int.ediv_eq_zero_of_lt (by omega) hm]
    rfl
  have e1 : (1 : Int) % m = 1 := Int.emod_eq_of_lt (by omega) hm
  have z := restF_drawF (show 0 < m by omega) bs (p := 0) (pw := 1) (lv := 0) (by omega) hb
  rw [e1] at z
  unfold due
  rw [dueF_rest, e, if_neg (by omega)]
  exact z
/-- figures of base 2 as a number -/
def valF (a : Nat) (gs : List Nat) : Nat := gs.foldl (fun a g => 2 * a + (g - 48)) a
def powF (m : Int) : Int → List Nat → Int
  | l, [] => l
  | l, g :: gs => powF m (l * l * (if g = 49 then 2 else 1) % m) gs
theorem powF_ok {m : Int} (hm : 0 < m) : ∀ (gs : List Nat) (a : Nat), (∀ g ∈ gs, g = 48 ∨ g = 49) → powF m (2 ^ a % m) gs = 2 ^ valF a gs % m
  | [], a, _ => rfl
  | g :: gs, a, h => by
    have hg := h g List.mem_cons_self
    unfold powF
    have e : (2 ^ a % m) * (2 ^ a % m) * (if g = 49 then 2 else 1) % m = 2 ^ (2 * a + (g - 48)) % m := by
      rw [Int.mul_emod, ← Int.mul_emod (2 ^ a) (2 ^ a) m, ← Int.mul_emod, ← Int.pow_add]
      rcases hg with rfl | rfl
      · simp
        congr 2
        omega
      · rw [if_pos rfl, ← Int.pow_succ]
        congr 2
        omega
    rw [e]
    exact powF_ok hm gs _ fun x hx => h x (List.mem_cons_of_mem _ hx)
theorem bin_val : ∀ n : Nat, n < 401 → valF 0 ((Nat.toDigits 2 n).map Char.toNat) = n ∧ (∀ g ∈ (Nat.toDigits 2 n).map Char.toNat, g = 48 ∨ g = 49) ∧ ((Nat.toDigits 2 n).map Char.toNat).length ≤ 9 := by decide +kernel
end SG

namespace SG
open PySem PySem.Spec PyProof.Rows L2 TL
open SX (S S_tl S_len)
section
variable {P : Program} {w : World} {K : PySem.W.Frag} {mg : Str → Option Value} {base : Heap}
def spTwos : Sp := fun vs H Q _ => ∃ n : Nat, vs = [.int n] ∧ n ≤ 1000 ∧ Q (.int (2 ^ n)) H
theorem ok_twos {f : Addr} {fd : FuncData} (F : Fun K "_law_twos" "_law_twos" s__law_twos f fd) (T : Txt mg) : GFn P w K mg base CX0 1 f fd ["_law_much"] spTwos := by
  refine gfun_ok F sc__law_twos (fun vs H Q E h => ?_) (fun cdv A outer s H vs Q E hgu hr h => ?_)
  · obtain ⟨n, rfl, _⟩ := h
    rfl
  · obtain ⟨n, rfl, hn, q⟩ := h
    have nd := sc__law_twos.nd
    refine ⟨_, (pss_cons (ps_set (i := 1) nd rfl (Or.inl rfl) pe_int)
      (pss_cons (ps_for PassesOwn.never rfl (pi_range1 rfl T.range (pa_cons (pv 0) pa_nil)) (pg_name (i := 2) nd rfl (Or.inl rfl))
        (pss_one (ps_set (i := 1) nd rfl (Or.inl rfl) (pe_op op_mul pe_int (pv 1)))))
      (pss_one (ps_ret (pv 1))))), ?_⟩
    refine ⟨_, rfl, n, rfl, by omega, by omega, for_range (lo := 0) (n := (n : Int).toNat) (fun i σ HI => ∃ y, σ = [some (.int n), some (.int (2 ^ i)), y] ∧ HI = H) ⟨none, rfl, rfl⟩ ?_ ?_⟩
    · rintro i σ HI hi ⟨y, rfl, rfl⟩
      refine ⟨_, rfl, _, _, rfl, rfl, .inl ⟨by decide, by decide⟩, some (.int (0 + i)), ?_, rfl⟩
      show [some (V.int n), some (V.int (2 * 2 ^ i)), some (V.int (0 + i))] = _
      rw [Int.pow_succ, Int.mul_comm 2]
    · rintro σ HI ⟨y, rfl, rfl⟩
      exact ⟨_, rfl, q⟩
abbrev farL : List V := [.int (10 ^ Int.toNat 18 + 9), .int (2 ^ Int.toNat 64 * 2 ^ Int.toNat 64 * 2 ^ Int.toNat 62 - 1), .int (2 ^ Int.toNat 64 * 2 ^ Int.toNat 64 * 2 ^ Int.toNat 62), .int (2 ^ Int.toNat 64 * 2 ^ Int.toNat 64 * 2 ^ Int.toNat 62 + 1), .int (10 ^ Int.toNat 59 + 7), .int (10 ^ Int.toNat 60 - 1)]
theorem farL_in : ∀ x ∈ farL, ∃ m : Nat, x = .int m ∧ 1 ≤ m ∧ m < 10 ^ 60 := by
  have z : ∀ i : Int, 1 ≤ i → i < 10 ^ 60 → ∃ m : Nat, V.int i = .int m ∧ 1 ≤ m ∧ m < 10 ^ 60 := fun i h1 h2 => ⟨i.toNat, by rw [Int.toNat_of_nonneg (by omega)], by omega, by omega⟩
  intro x hx
  simp only [farL, List.mem_cons, List.not_mem_nil, or_false] at hx
  rcases hx with rfl | rfl | rfl | rfl | rfl | rfl
  all_goals exact z _ (by decide +kernel) (by decide +kernel)
abbrev nearL : List V := [.int 1, .int 2, .int 3, .int 5, .int 7, .int 8, .int 9, .int 31, .int 32, .int 33, .int 100, .int 255, .int 256, .int 257, .int 299, .int 300]
theorem nearL_in : ∀ x ∈ nearL, ∃ m : Nat, x = .int m ∧ 1 ≤ m ∧ m < 10 ^ 60 := by
  have z : ∀ i : Int, 1 ≤ i → i ≤ 300 → ∃ m : Nat, V.int i = .int m ∧ 1 ≤ m ∧ m < 10 ^ 60 := fun i h1 h2 => ⟨i.toNat, by rw [Int.toNat_of_nonneg (by omega)], by omega, Nat.lt_of_le_of_lt (by omega : i.toNat ≤ 300) (by decide +kernel)⟩
  intro x hx
  simp only [nearL, List.mem_cons, List.not_mem_nil, or_false] at hx
  rcases hx with rfl | rfl | rfl | rfl | rfl | rfl | rfl | rfl | rfl | rfl | rfl | rfl | rfl | rfl | rfl | rfl
  all_goals exact z _ (by decide) (by decide)
def spMany (K : PySem.W.Frag) : Sp := fun vs H Q _ => ∃ (d l : Addr) (c : Nat), vs = [.ref d] ∧ Deck H d l c ∧ c < 900000 ∧
  ∀ (m : Nat) (H2 : Hp), 1 ≤ m → m < 10 ^ 60 → Deck H2 d l (c + 3) → Kept d l H H2 → Q (.int m) H2
theorem ok_many {f f1 f2 : Addr} {fd fd1 fd2 : FuncData} (F : Fun K "_law_many" "_law_many" s__law_many f fd) (F__law_draw : Fun K "_law_draw" "_law_draw" s__law_draw f1 fd1) (m__law_draw : mg "_law_draw" = some (.ref f1)) (b__law_draw : Binds K fd1 ["_law_deck_here", "_law_much"] [])
    (F__law_pick : Fun K "_law_pick" "_law_pick" s__law_pick f2 fd2) (m__law_pick : mg "_law_pick" = some (.ref f2)) (b__law_pick : Binds K fd2 ["_law_deck_here", "_law_some"] []) (T : Txt mg) : GFn P w K mg base CX0 3 f fd ["_law_deck_here"] (spMany K) := by
  have G__law_draw : GFn P w K mg base CX0 1 f1 fd1 ["_law_deck_here", "_law_much"] spDraw := ok_draw F__law_draw T
  have G__law_pick : GFn P w K mg base CX0 2 f2 fd2 ["_law_deck_here", "_law_some"] (spPick K) := ok_pick F__law_pick F__law_draw m__law_draw b__law_draw T
  refine gfun_ok F sc__law_many (fun vs H Q E h => ?_) (fun cdv A outer s H vs Q E hgu hr h => ?_)
  · obtain ⟨d, l, c, rfl, _⟩ := h
    rfl
  · obtain ⟨d, l, c, rfl, D, hc, q⟩ := h
    have nd := sc__law_many.nd
    refine ⟨_, (pss_cons (ps_set (i := 1) nd rfl (Or.inl rfl) (pe_lst (pa_cons pe_int (pa_cons pe_int (pa_cons pe_int (pa_cons pe_int (pa_cons pe_int (pa_cons pe_int (pa_cons pe_int (pa_cons pe_int (pa_cons pe_int (pa_cons pe_int (pa_cons pe_int (pa_cons pe_int (pa_cons pe_int (pa_cons pe_int (pa_cons pe_int (pa_cons pe_int pa_nil))))))))))))))))))
      (pss_cons (ps_set (i := 2) nd rfl (Or.inl rfl) (pe_op op_mulW (pe_op op_mulW (pe_op op_pow pe_int pe_int) (pe_op op_pow pe_int pe_int)) (pe_op op_pow pe_int pe_int)))
      (pss_cons (ps_set (i := 3) nd rfl (Or.inl rfl) (pe_lst (pa_cons (pe_op op_add (pe_op op_pow pe_int pe_int) pe_int) (pa_cons (pe_op op_sub (pv 2) pe_int) (pa_cons (pv 2) (pa_cons (pe_op op_add (pv 2) pe_int) (pa_cons (pe_op op_add (pe_op op_pow pe_int pe_int) pe_int) (pa_cons (pe_op op_sub (pe_op op_pow pe_int pe_int) pe_int) pa_nil))))))))
      (pss_cons (ps_if (pt_cmpR op_eq (pe_g G__law_draw hgu (hr.mono (by decide)) (by rfl) m__law_draw F__law_draw.kp b__law_draw .nil pass0 (pa_cons (pv 0) (pa_cons pe_int pa_nil))) pe_int (nomark _)) (pss_one (ps_ret (pe_g G__law_pick hgu (hr.mono (by decide)) (by rfl) m__law_pick F__law_pick.kp b__law_pick .nil pass0 (pa_cons (pv 0) (pa_cons (pv 3) pa_nil))))) pss_nil)
      (pss_one (ps_ret (pe_g G__law_pick hgu (hr.mono (by decide)) (by rfl) m__law_pick F__law_pick.kp b__law_pick .nil pass0 (pa_cons (pv 0) (pa_cons (pe_op op_cat (pv 1) (pe_lst (pa_cons (pe_op op_add pe_int (pe_g G__law_draw hgu (hr.mono (by decide)) (by rfl) m__law_draw F__law_draw.kp b__law_draw .nil pass0 (pa_cons (pv 0) (pa_cons pe_int pa_nil)))) pa_nil))) pa_nil))))))))), ?_⟩
    refine ⟨(by show 16 ≤ sizeLine; decide), fun a na => ?_⟩
    have D1 := D.upd (o := .lst [.int 1, .int 2, .int 3, .int 5, .int 7, .int 8, .int 9, .int 31, .int 32, .int 33, .int 100, .int 255, .int 256, .int 257, .int 299, .int 300]) na
    have k1 : Kept d l H _ := .of (same_new (o := .lst [.int 1, .int 2, .int 3, .int 5, .int 7, .int 8, .int 9, .int 31, .int 32, .int 33, .int 100, .int 255, .int 256, .int 257, .int 299, .int 300]) na)
    obtain ⟨ad, al⟩ := D.ne na
    have ha : (upd H a (.lst [.int 1, .int 2, .int 3, .int 5, .int 7, .int 8, .int 9, .int 31, .int 32, .int 33, .int 100, .int 255, .int 256, .int 257, .int 299, .int 300])) a = some (.lst [.int 1, .int 2, .int 3, .int 5, .int 7, .int 8, .int 9, .int 31, .int 32, .int 33, .int 100, .int 255, .int 256, .int 257, .int 299, .int 300]) := upd_same
    generalize upd H a (.lst [.int 1, .int 2, .int 3, .int 5, .int 7, .int 8, .int 9, .int 31, .int 32, .int 33, .int 100, .int 255, .int 256, .int 257, .int 299, .int 300]) = H1 at D1 k1 ha ⊢
    have cp : ∀ {i j : Int}, 0 ≤ j → j ≤ 1000000 → i.natAbs < 2 ^ 64 → CPow i j := fun h1 h2 h3 => ⟨h1, h2, h3⟩
    refine ⟨_, _, rfl, rfl, cp (by decide) (by decide) (by decide), _, _, rfl, rfl, cp (by decide) (by decide) (by decide), _, _, rfl, rfl, (by show _ + _ < 1000000; decide +kernel), _, _, rfl, rfl, cp (by decide) (by decide) (by decide), _, _, rfl, rfl, (by show _ + _ < 1000000; decide +kernel), ?_⟩
    refine ⟨_, _, rfl, rfl, cp (by decide) (by decide) (by decide), _, _, rfl, rfl, _, rfl, _, _, rfl, rfl, _, rfl, _, rfl, _, _, rfl, rfl, _, _, rfl, rfl, cp (by decide) (by decide) (by decide), _, _, rfl, rfl, _, _, rfl, rfl, cp (by decide) (by decide) (by decide), _, _, rfl, rfl, (by show 6 ≤ sizeLine; decide), fun b nb => ?_⟩
    change gName 3 _ _ (upd H1 b (.lst farL)) _
    have D2 := D1.upd (o := .lst farL) nb
    have k2 : Kept d l H1 _ := .of (same_new (o := .lst farL) nb)
    obtain ⟨bd, bl⟩ := D1.ne nb
    have hb : (upd H1 b (.lst farL)) b = some (.lst farL) := upd_same
    have ha2 := k2 _ _ ha ad al
    generalize upd H1 b (.lst farL) = H2 at D2 k2 hb ha2 ⊢
    refine ⟨_, rfl, d, l, c, 4, rfl, D2, by omega, by decide, by decide, fun r H3 r0 r1 D3 k3 => ⟨rfl, _, rfl, ite2 (fun _ => ?_) (fun _ => ?_)⟩⟩
    · refine ⟨_, rfl, _, rfl, d, l, c + 1, D3, by omega, .inl ⟨b, farL, rfl, SqL.of (k3 _ _ hb bd bl), bl, by simp, (by show 6 ≤ 1000; decide), fun x H4 hx D4 k4 => ?_⟩⟩
      obtain ⟨m, rfl, m1, m2⟩ := farL_in x hx
      exact q m H4 m1 m2 (D4.mono (by omega)) (((k1.trans k2).trans k3).trans k4)
    · have ha3 := k3 _ _ ha2 ad al
      refine ⟨_, rfl, _, rfl, _, rfl, d, l, c + 1, 300, rfl, D3, by omega, by decide, by decide, fun e H4 e0 e1 D4 k4 => ⟨_, _, rfl, rfl, (by show 1 ≤ sizeLine; decide), fun p np => ?_⟩⟩
      have D5 := D4.upd (o := .lst [.int (1 + e)]) np
      have s5 := same_new (o := .lst [.int (1 + e)]) np
      have ha5 := s5 _ _ (k4 _ _ ha3 ad al)
      refine ⟨a, p, nearL, [.int (1 + e)], rfl, rfl, ha5, upd_same, (by show 17 ≤ sizeLine; decide), fun t nt => ?_⟩
      have D6 := D5.upd (o := .lst (nearL ++ [.int (1 + e)])) nt
      obtain ⟨td, tl'⟩ := D5.ne nt
      have k6 : Kept d l H _ := ((((k1.trans k2).trans k3).trans k4).trans (.of s5)).trans (.of (same_new (o := .lst (nearL ++ [.int (1 + e)])) nt))
      refine ⟨d, l, c + 2, D6, by omega, .inl ⟨t, nearL ++ [.int (1 + e)], rfl, SqL.of upd_same, tl', by simp, (by show 17 ≤ 1000; decide), fun x H7 hx D7 k7 => ?_⟩⟩
      have hx2 : ∃ m : Nat, x = .int m ∧ 1 ≤ m ∧ m < 10 ^ 60 := by
        rcases List.mem_append.mp hx with hx | hx
        · exact nearL_in x hx
        · rw [List.mem_singleton.mp hx]
          exact ⟨(1 + e).toNat, by rw [Int.toNat_of_nonneg (by omega)], by omega, Nat.lt_of_le_of_lt (by omega : (1 + e).toNat ≤ 300) (by decide +kernel)⟩
      obtain ⟨m, rfl, m1, m2⟩ := hx2
      exact q m H7 m1 m2 D7 (k6.trans k7)
end
end SG

namespace SG
open PySem PySem.Spec PyProof.Rows L2 TL
open SX (S S_tl S_len)
section
variable {P : Program} {w : World} {K : PySem.W.Frag} {mg : Str → Option Value} {base : Heap}
def bitsOf (gs : List Nat) : List Int := gs.map fun g : Nat => ((g : Nat) : Int) - 48
def Out.nm : Out → Str
  | .drawn _ _ => "drawn"
  | .opened _ _ => "open"
def Out.fst : Out → Int
  | .drawn x _ => x
  | .opened x _ => x
def Out.snd : Out → Int
  | .drawn _ y => y
  | .opened _ y => y
def outV (o : Out) : List V := [.str o.nm, .int o.fst, .int o.snd]
def outD (o : Out) : PyData := .tuple [.str o.nm, .int o.fst, .int o.snd]
theorem int_bit {g : Nat} (h : isBit g) : PySem.intText? ⟨#[g]⟩ = some ((g : Int) - 48) := by
  rcases h with rfl | rfl
  · decide +kernel
  · decide +kernel
/-- the leaves of a depth -/
theorem leaf_tell {σ : L2.St} {H : Hp} {Q : VK} {m : Nat} {pw : Int} {i j : Nat} (e1 : σ[i]? = some (some (.int pw))) (e2 : σ[j]? = some (some (.int m))) (m1 : 1 ≤ m) (m2 : m < 10 ^ 60) (q : Q (.int (leavesOf m pw)) H) :
    tIf (tTest (tOp rEq (tOp (rI (fun x j => 0 < j) fun i j => V.int (i % j)) (tOp (rI CDivW fun i j => V.int (i / j)) (tVar i) (tVar j)) (tC (V.int 2))) (tC (V.int 1)))) (tVar j) (tC (V.int 0)) σ H Q := by
  refine ⟨_, e1, _, e2, _, _, rfl, rfl, wide_div (b := 200) (by omega) (by rw [Int.natAbs_natCast]; exact Nat.lt_of_lt_of_le m2 (by decide +kernel)) (by decide) (by decide), _, _, rfl, rfl, by show (0 : Int) < 2; decide, rfl, _, rfl, ite2 (fun h => ?_) (fun h => ?_)⟩
  · rw [dec_int, beq_iff_eq] at h
    refine ⟨_, e2, ?_⟩
    unfold leavesOf at q
    rw [if_pos h] at q
    exact q
  · rw [dec_int, beq_iff_eq] at h
    unfold leavesOf at q
    rw [if_neg h] at q
    exact q
def spDue (K : PySem.W.Frag) : Sp := fun vs H Q _ => ∃ (m : Nat) (gs : List Nat), vs = [.int m, .str (S gs)] ∧ 1 ≤ m ∧ m < 10 ^ 60 ∧ gs.length ≤ 400 ∧ (∀ g ∈ gs, isBit g) ∧
  ∀ (p : Addr) (H2 : Hp), Same H H2 → SqT K H2 p (outV (due m (bitsOf gs))) → Q (.ref p) H2
theorem ok_due {f : Addr} {fd : FuncData} (F : Fun K "_law_due" "_law_due" s__law_due f fd) (T : Txt mg) : GFn P w K mg base CX0 1 f fd ["_law_much", "_law_flips"] (spDue K) := by
  refine gfun_ok F sc__law_due (fun vs H Q E h => ?_) (fun cdv A outer s H vs Q E hgu hr h => ?_)
  · obtain ⟨m, gs, rfl, _⟩ := h
    rfl
  · obtain ⟨m, gs, rfl, m1, m2, hl, hg, q⟩ := h
    have nd := sc__law_due.nd
    refine ⟨_, (pss_cons (ps_asg (pe_tup (pa_cons pe_int (pa_cons pe_int (pa_cons pe_int pa_nil)))) (k_tg (K := K) (n := 3) rfl (pgs_cons (pg_name (i := 2) nd rfl (Or.inl rfl)) (pgs_cons (pg_name (i := 3) nd rfl (Or.inl rfl)) (pgs_cons (pg_name (i := 4) nd rfl (Or.inl rfl)) pgs_nil)))))
      (pss_cons (ps_for PassesOwn.never rfl (pi_range1 rfl T.range (pa_cons (pe_op op_add (pe_callB call_len_str (by rfl) T.len (by decide +kernel) (pa_cons (pv 1) pa_nil)) pe_int) pa_nil)) (pg_name (i := 5) nd rfl (Or.inl rfl))
        (pss_cons (ps_set (i := 6) nd rfl (Or.inl rfl) (pe_ifExp (pt_cmpR op_eq (pe_op op_mod (pe_op op_fdivW (pv 4) (pv 0)) pe_int) pe_int (nomark _)) (pv 0) pe_int))
      (pss_cons (ps_if (pt_cmpR op_lt (pv 3) (pv 6) (nomark _)) (pss_one (ps_ret (pe_tup (pa_cons pe_str (pa_cons (pv 3) (pa_cons (pv 5) pa_nil)))))) pss_nil)
      (pss_cons (ps_par3 (i := 2) (j := 3) (l := 4) rfl nd rfl rfl rfl (by decide) (by decide) (by decide) rfl rfl rfl (pa_cons (pe_op op_sub (pv 2) (pv 6)) (pa_cons (pe_op op_sub (pv 3) (pv 6)) (pa_cons (pe_op op_mul pe_int (pv 4)) pa_nil))) (by rfl))
      (pss_one (ps_if (pt_cmpR op_lt (pv 5) (pe_callB call_len_str (by rfl) T.len (by decide +kernel) (pa_cons (pv 1) pa_nil)) (nomark _)) (pss_one (ps_par (i := 2) (j := 3) rfl nd rfl rfl (by decide) rfl rfl (pa_cons (pe_op op_mul pe_int (pv 2)) (pa_cons (pe_op op_add (pe_op op_mul pe_int (pv 3)) (pe_callTy call_int_str (by rfl) T.int (by decide +kernel) (pa_cons (pe_ix ix_str (pv 1) (pv 5) (fun _ _ => rfl)) pa_nil))) pa_nil)) (by rfl))) pss_nil))))))
      (pss_one (ps_ret (pe_tup (pa_cons pe_str (pa_cons (pv 2) (pa_cons (pv 3) pa_nil)))))))), ?_⟩
    refine ⟨by show 3 ≤ sizeLine; decide, fun t nt => ⟨t, _, rfl, .inl (.inl upd_same), rfl, _, _, rfl, _, _, rfl, _, _, rfl, rfl, ?_⟩⟩
    have sl : (S gs).length = gs.length := S_len gs
    have sz : (S gs).length ≤ sizeLine := by rw [sl]; exact Nat.le_of_lt (small1000 (by omega))
    refine ⟨_, rfl, _, rfl, sz, _, _, rfl, rfl, _, rfl, by omega, by omega, for_range (lo := 0) (n := (((S gs).length : Int) + 1).toNat) (fun i σ HI => ∃ (ps p pw : Int) (y5 y6 : Option V), σ = [some (.int m), some (.str (S gs)), some (.int ps), some (.int p), some (.int pw), y5, y6] ∧ Same H HI ∧
      ((i ≤ gs.length ∧ dueF m ps p pw i ((bitsOf gs).drop i) = due m (bitsOf gs)) ∨ (i = gs.length + 1 ∧ due m (bitsOf gs) = .opened ps p))) ⟨1, 0, 1, none, none, rfl, same_new nt, .inl ⟨Nat.zero_le _, rfl⟩⟩ ?_ ?_⟩
    · rintro i σ HI hi ⟨ps, p, pw, y5, y6, rfl, sH, h⟩
      rw [sl] at hi
      have hi2 : i ≤ gs.length := by omega
      have hd : dueF m ps p pw i ((bitsOf gs).drop i) = due m (bitsOf gs) := by
        rcases h with h | h
        · exact h.2
        · omega
      have bl : (bitsOf gs).length = gs.length := List.length_map _
      refine leaf_tell rfl rfl m1 m2 ?_
      refine ⟨_, rfl, _, rfl, _, _, rfl, rfl, _, rfl, ite2 (fun hp => ?_) (fun hp => ?_)⟩
      · have hp := of_decide_eq_true hp
        refine ⟨_, rfl, _, rfl, by show 3 ≤ sizeLine; decide, fun z nz => q z _ (sH.trans (same_new nz)) (.inl (.inl ?_))⟩
        have e : due m (bitsOf gs) = .drawn p i := by
          rw [← hd]
          cases (bitsOf gs).drop i with
          | nil => simp [dueF, hp]
          | cons b bs => simp [dueF, hp]
        rw [upd_same, e, Int.zero_add]
        rfl
      · have hp : ¬ p < leavesOf m pw := fun z => hp (decide_eq_true z)
        refine ⟨_, rfl, _, rfl, _, _, rfl, rfl, _, rfl, _, rfl, _, _, rfl, rfl, _, rfl, _, _, rfl, rfl, .inl ⟨by decide, by decide⟩, _, _, _, rfl, ?_⟩
        refine ⟨_, rfl, _, rfl, _, rfl, sz, _, _, rfl, rfl, _, rfl, ite2 (fun hl2 => ?_) (fun hl2 => ?_)⟩
        · have hl2 : i < gs.length := by
            have := of_decide_eq_true hl2
            rw [sl] at this
            omega
          have eg : gs[i]? = some gs[i] := List.getElem?_eq_getElem hl2
          have eb : (bitsOf gs).drop i = ((gs[i] : Int) - 48) :: (bitsOf gs).drop (i + 1) := by
            rw [List.drop_eq_getElem_cons (by rw [bl]; exact hl2)]
            simp [bitsOf]
          have at_ : atI (S gs).cps.toList ((0 : Int) + (i : Int)) = some gs[i] := by
            rw [Int.zero_add]
            exact atI_nat eg
          refine ⟨_, rfl, _, _, rfl, rfl, .inl ⟨by decide, by decide⟩, _, rfl, _, _, rfl, rfl, .inl ⟨by decide, by decide⟩, _, rfl, _, rfl, S gs, _, gs[i], rfl, rfl, sz, at_, _, _, rfl, int_bit (hg _ (List.getElem_mem hl2)), by show 1 ≤ 640; decide, _, _, rfl, rfl, _, _, rfl, ?_⟩
          refine ⟨_, _, _, _, _, rfl, sH, .inl ⟨hl2, ?_⟩⟩
          rw [← hd, eb]
          show _ = dueF m ps p pw i (_ :: _)
          conv => rhs; unfold dueF
          rw [if_neg hp]
          rfl
        · have hl2 : i = gs.length := by
            have : ¬ ((0 : Int) + i < ((S gs).length : Int)) := fun z => hl2 (decide_eq_true z)
            rw [sl] at this
            omega
          refine ⟨_, _, _, _, _, rfl, sH, .inr ⟨by omega, ?_⟩⟩
          have e : (bitsOf gs).drop i = [] := List.drop_eq_nil_of_le (by rw [bl]; omega)
          rw [← hd, e]
          unfold dueF
          rw [if_neg hp]
    · rintro σ HI ⟨ps, p, pw, y5, y6, rfl, sH, h⟩
      rw [sl] at h
      have e : due m (bitsOf gs) = .opened ps p := by
        rcases h with h | h
        · omega
        · exact h.2
      refine ⟨_, rfl, _, rfl, by show 3 ≤ sizeLine; decide, fun z nz => q z _ (sH.trans (same_new nz)) (.inl (.inl ?_))⟩
      rw [upd_same, e]
      rfl
end
end SG

namespace SG
open PySem PySem.Spec PyProof.Rows L2 TL
open SX (S S_tl S_len)
section
variable {P : Program} {w : World} {K : PySem.W.Frag} {mg : Str → Option Value} {base : Heap}
theorem cutS_to (gs : List Nat) (n : Nat) : cutS (S gs) none (some (n : Int)) = S (gs.take n) := by
  have e : (S gs).length = gs.length := S_len gs
  unfold cutS
  rw [HT.sIx_none, HT.sIx_nat, Nat.sub_zero, List.drop_zero]
  show S ((gs).take (min n (S gs).length)) = _
  rw [e]
  rcases Nat.le_total n gs.length with h | h
  · rw [Nat.min_eq_left h]
  · rw [Nat.min_eq_right h, List.take_of_length_le (Nat.le_refl _), List.take_of_length_le h]
theorem sk1 : PyData.strOk "drawn" = true := by decide +kernel
theorem sk2 : PyData.strOk "open" = true := by decide +kernel
theorem sb1 : (PyData.str "drawn").bulk = 5 := by decide +kernel
theorem sb2 : (PyData.str "open").bulk = 4 := by decide +kernel
theorem eqv_out (o : Out) : PyData.eqv (outD o) (outD o) = true := by
  simp [outD, PyData.eqv, PyData.eqvAll]
theorem dp_out {H : Hp} {p : Addr} {o : Out} (h : SqT K H p (outV o)) : Dp K H (.ref p) (outD o) := .tup h (.cons (.str _) (.cons (.int _) (.cons (.int _) .nil)))
theorem shaped_out (o : Out) : SeqAt.shaped (outD o) = true := by
  cases o <;> simp [outD, Out.nm, Out.fst, Out.snd, SeqAt.shaped, PyData.canLay0, PyData.canLayAll0, PyData.depth, PyData.depthAll, sk1, sk2]
theorem okD_str {s : Str} (h : ((PyData.str s).canLay0 && decide ((PyData.str s).depth ≤ 49) && tellable (.str s) && (PyData.str s).leavesShort 4302 && decide ((PyData.str s).bulk ≤ 3000)) = true) : OkD (.str s) ∧ (PyData.str s).depth ≤ 49 := by
  simp only [Bool.and_eq_true, decide_eq_true_eq] at h
  exact ⟨⟨h.1.1.1.1, by omega, h.1.1.2, h.1.2, h.2⟩, h.1.1.1.2⟩
theorem okD_str1 : OkD (.str "drawn") ∧ (PyData.str "drawn").depth ≤ 49 := okD_str (by decide +kernel)
theorem okD_str2 : OkD (.str "open") ∧ (PyData.str "open").depth ≤ 49 := okD_str (by decide +kernel)
theorem dep0 (i : Int) : (PyData.int i).depth ≤ 49 := by
  simp only [PyData.depth]
  omega
theorem bulk1 (x y : Int) : PyData.bulkAll [.str "drawn", .int x, .int y] ≤ 10 := by
  simp only [PyData.bulkAll, sb1]
  simp only [PyData.bulk]
  omega
theorem bulk2 (x y : Int) : PyData.bulkAll [.str "open", .int x, .int y] ≤ 10 := by
  simp only [PyData.bulkAll, sb2]
  simp only [PyData.bulk]
  omega
theorem depthO (o : Out) : (outD o).depth ≤ 49 := by
  cases o <;> (simp only [outD, Out.nm, PyData.depth, PyData.depthAll]; omega)
theorem ok_out {o : Out} {N : Nat} (h : o.small N) (hN : N < 10 ^ 4300) : OkD (outD o) ∧ (outD o).bulk ≤ 10 := by
  cases o with
  | drawn x y =>
    have a : OkA [.str "drawn", .int x, .int y] := .cons okD_str1.1 okD_str1.2 (.cons (.int (Nat.lt_of_le_of_lt h.1 hN)) (dep0 _) (.cons (.int (Nat.lt_of_le_of_lt h.2 hN)) (dep0 _) .nil))
    have b := bulk1 x y
    exact ⟨a.tuple (Nat.le_trans b (by decide)), by simpa only [outD, Out.nm, Out.fst, Out.snd, PyData.bulk] using b⟩
  | opened x y =>
    have a : OkA [.str "open", .int x, .int y] := .cons okD_str2.1 okD_str2.2 (.cons (.int (Nat.lt_of_le_of_lt h.1 hN)) (dep0 _) (.cons (.int (Nat.lt_of_le_of_lt h.2 hN)) (dep0 _) .nil))
    have b := bulk2 x y
    exact ⟨a.tuple (Nat.le_trans b (by decide)), by simpa only [outD, Out.nm, Out.fst, Out.snd, PyData.bulk] using b⟩
theorem ok_out3 {o : Out} (h : OkD (outD o) ∧ (outD o).bulk ≤ 10) : OkD (.list [outD o, outD o, outD o]) := by
  obtain ⟨a, c⟩ := h
  have b := depthO o
  refine (OkA.cons a b (OkA.cons a b (OkA.cons a b .nil))).list ?_
  simp only [PyData.bulkAll]
  omega
theorem due_small {m : Nat} {gs : List Nat} (m2 : m < 10 ^ 60) (hl : gs.length ≤ 400) (hg : ∀ g ∈ gs, isBit g) : (due m (bitsOf gs)).small (4 ^ 401 * 10 ^ 61) := by
  have bl : (bitsOf gs).length = gs.length := List.length_map _
  have z := dueF_small (m := m) (bitsOf gs) (ps := 1) (p := 0) (pw := 1) (lv := 0) (B := 10 ^ 61) (fun b hb => ?_) ?_ (by decide +kernel) (by decide +kernel) ?_
  · have le : 4 ^ ((bitsOf gs).length + 1) * 10 ^ 61 ≤ 4 ^ 401 * 10 ^ 61 := Nat.mul_le_mul_right _ (Nat.pow_le_pow_right (by decide) (by omega))
    unfold due
    cases e : dueF (m : Int) 1 0 1 0 (bitsOf gs) with
    | drawn x y => rw [e] at z; exact ⟨Nat.le_trans z.1 le, Nat.le_trans z.2 le⟩
    | opened x y => rw [e] at z; exact ⟨Nat.le_trans z.1 le, Nat.le_trans z.2 le⟩
  · unfold bitsOf at hb
    obtain ⟨g, hm, rfl⟩ := List.mem_map.mp hb
    rcases hg g hm with rfl | rfl <;> decide
  · rw [Int.natAbs_natCast]
    exact Nat.le_trans m2 (by decide +kernel)
  · rw [bl]
    exact Nat.le_trans (by omega : (0 : Int).natAbs + gs.length ≤ 400) (by decide +kernel)
def spOpenAt : Sp := fun vs H Q _ => ∃ (m n : Nat), vs = [.int m, .int n] ∧ 1 ≤ m ∧ m < 10 ^ 60 ∧ n ≤ 400 ∧ ∀ H2, Same H H2 → Q (.int (2 ^ n % m)) H2
def spLeavesAt : Sp := fun vs H Q _ => ∃ (m n : Nat), vs = [.int m, .int n] ∧ 1 ≤ m ∧ m < 10 ^ 60 ∧ n ≤ 400 ∧ ∀ H2, Same H H2 → Q (.int (leavesOf m (2 ^ n))) H2
end
end SG

namespace SG
open PySem PySem.Spec PyProof.Rows L2 TL
open SX (S S_tl S_len S_cat)
section
variable {P : Program} {w : World} {K : PySem.W.Frag} {mg : Str → Option Value} {base : Heap}
theorem rNe_same {t : Str} {H : Hp} {Q : VK} (q : Q (.bl false) H) : rNe (.str t) (.str t) H Q := ⟨rfl, by rw [decide_eq_true (rfl : V.str t = V.str t)]; exact q⟩
theorem S_cut400 {a b : List Nat} {k : Nat} (h : a.length = k) (hk : k ≤ 400) : (a ++ b).take 400 = a ++ b.take (400 - k) := by
  rw [List.take_append, h, List.take_of_length_le (by omega)]
theorem bits_take (gs : List Nat) (n : Nat) : bitsOf (gs.take n) = (bitsOf gs).take n := by
  unfold bitsOf
  rw [List.map_take]
theorem bits_app (a b : List Nat) : bitsOf (a ++ b) = bitsOf a ++ bitsOf b := by
  unfold bitsOf
  rw [List.map_append]
theorem nm_drawn (o : Out) : (decide (V.str o.nm = V.str "drawn") = true ∧ ∃ x y, o = .drawn x y) ∨ (decide (V.str o.nm = V.str "drawn") = false ∧ ∃ x y, o = .opened x y) := by
  cases o with
  | drawn x y => exact .inl ⟨decide_eq_true rfl, x, y, rfl⟩
  | opened x y =>
    refine .inr ⟨?_, x, y, rfl⟩
    show decide (V.str "open" = V.str "drawn") = false
    decide +kernel
def spRight (K : PySem.W.Frag) : Sp := fun vs H Q _ => ∃ (d l : Addr) (c m : Nat) (gs : List Nat), vs = [.ref d, .int m, .str (S gs)] ∧ Deck H d l c ∧ c < 900000 ∧ 1 ≤ m ∧ m < 10 ^ 60 ∧ gs.length ≤ 400 ∧ (∀ g ∈ gs, isBit g) ∧
  ∀ (H2 : Hp), Deck H2 d l (c + 3) → Kept d l H H2 → Q (.bl true) H2
theorem ok_right {f f1 f2 f3 f4 : Addr} {fd fd1 fd2 fd3 fd4 : FuncData} (hdg : base.NoDigits) (F : Fun K "_law_right" "_law_right" s__law_right f fd) (F__law_draw : Fun K "_law_draw" "_law_draw" s__law_draw f1 fd1) (m__law_draw : mg "_law_draw" = some (.ref f1)) (b__law_draw : Binds K fd1 ["_law_deck_here", "_law_much"] [])
    (F__law_due : Fun K "_law_due" "_law_due" s__law_due f2 fd2) (m__law_due : mg "_law_due" = some (.ref f2)) (b__law_due : Binds K fd2 ["_law_much", "_law_flips"] [])
    (G_draw : GFn P w K mg base CX0 4 f3 fd3 ["many", "tosses"] (spDue K)) (F_draw : Fun K "draw" "draw" s_draw f3 fd3) (m_draw : mg "draw" = some (.ref f3)) (b_draw : Binds K fd3 ["many", "tosses"] []) (kb_draw_tosses_many : KBinds K fd3 ["many", "tosses"] ["tosses", "many"] kwTurn kwTurn)
    (G_open_at : GFn P w K mg base CX0 4 f4 fd4 ["many", "depth"] spOpenAt) (F_open_at : Fun K "open_at" "open_at" s_open_at f4 fd4) (m_open_at : mg "open_at" = some (.ref f4)) (b_open_at : Binds K fd4 ["many", "depth"] []) (T : Txt mg) :
    GFn P w K mg base CX0 5 f fd ["_law_deck_here", "_law_much", "_law_flips"] (spRight K) := by
  have G__law_draw : GFn P w K mg base CX0 1 f1 fd1 ["_law_deck_here", "_law_much"] spDraw := ok_draw F__law_draw T
  have G__law_due : GFn P w K mg base CX0 1 f2 fd2 ["_law_much", "_law_flips"] (spDue K) := ok_due F__law_due T
  refine gfun_ok F sc__law_right (fun vs H Q E h => ?_) (fun cdv A outer s H vs Q E hgu hr h => ?_)
  · obtain ⟨d, l, c, m, gs, rfl, _⟩ := h
    rfl
  · obtain ⟨d, l, c, m, gs, rfl, D0, hc, m1, m2, hl, hg, q⟩ := h
    have nd := sc__law_right.nd
    refine ⟨_, (pss_cons (ps_set (i := 3) nd rfl (Or.inl rfl) (pe_g G__law_due hgu (hr.mono (by decide)) (by rfl) m__law_due F__law_due.kp b__law_due .nil pass0 (pa_cons (pv 1) (pa_cons (pv 2) pa_nil))))
      (pss_cons (ps_if (pt_cmpR op_ne (pe_callB (k_repr (K := K) hdg hgu hr) (by rfl) T.repr (by decide +kernel) (pa_cons (pe_lst (pa_cons (pe_g G_draw hgu (hr.mono (by decide)) (by rfl) m_draw F_draw.kp b_draw .nil pass0 (pa_cons (pv 1) (pa_cons (pv 2) pa_nil))) (pa_cons (pe_gK0 G_draw hgu (hr.mono (by decide)) (by rfl) m_draw F_draw.kp kb_draw_tosses_many pass0 (pk_cons (pv 2) (pk_cons (pv 1) pk_nil))) (pa_cons (pe_g G_draw hgu (hr.mono (by decide)) (by rfl) m_draw F_draw.kp b_draw .nil pass0 (pa_cons (pv 1) (pa_cons (pv 2) pa_nil))) pa_nil)))) pa_nil)) (pe_callB (k_repr (K := K) hdg hgu hr) (by rfl) T.repr (by decide +kernel) (pa_cons (pe_op op_rep (pe_lst (pa_cons (pv 3) pa_nil)) pe_int) pa_nil)) (nomark _)) (pss_one (ps_ret pe_bl)) pss_nil)
      (pss_cons (ps_for PassesOwn.never rfl (pi_list (pe_op op_cat (pe_lc (own := [("_law_go", 5)]) rfl nd (pi_range1 rfl T.range (pa_cons pe_int pa_nil)) (blkOk_by (N := N__law_right) (sc := defScope s__law_right) (by decide +kernel)) (fun _ _ _ _ _ => (pg_name (i := 5) nd rfl (Or.inl rfl))) (fun _ _ _ _ _ => pts_nil) (fun _ _ _ _ _ => (pe_g G__law_draw hgu (hr.mono (by decide)) (by rfl) m__law_draw F__law_draw.kp b__law_draw .nil pass0 (pa_cons (pv 0) (pa_cons (pe_op op_add (pe_callB call_len_str (by rfl) T.len (by decide +kernel) (pa_cons (pv 2) pa_nil)) pe_int) pa_nil))))) (pe_lst (pa_cons pe_int pa_nil)))) (pg_name (i := 4) nd rfl (Or.inl rfl))
        (pss_cons (ps_if (pt_cmpR op_ne (pe_callB (k_repr (K := K) hdg hgu hr) (by rfl) T.repr (by decide +kernel) (pa_cons (pe_g G_draw hgu (hr.mono (by decide)) (by rfl) m_draw F_draw.kp b_draw .nil pass0 (pa_cons (pv 1) (pa_cons (pe_slice sl_str (pv 2) po_none (po_some (pv 4))) pa_nil))) pa_nil)) (pe_callB (k_repr (K := K) hdg hgu hr) (by rfl) T.repr (by decide +kernel) (pa_cons (pe_g G__law_due hgu (hr.mono (by decide)) (by rfl) m__law_due F__law_due.kp b__law_due .nil pass0 (pa_cons (pv 1) (pa_cons (pe_slice sl_str (pv 2) po_none (po_some (pv 4))) pa_nil))) pa_nil)) (nomark _)) (pss_one (ps_ret pe_bl)) pss_nil)
      (pss_one (ps_if (PW.pt (pw_and (pt_cmpR op_eq (pe_ix (k_ixT (K := K)) (pv 3) pe_int (fun _ _ => rfl)) pe_str (nomark _)) (pw_and1 (pt_cmpR (k_neD (K := K) hr.units) (pe_g G_draw hgu (hr.mono (by decide)) (by rfl) m_draw F_draw.kp b_draw .nil pass0 (pa_cons (pv 1) (pa_cons (pe_slice sl_str (pe_op op_add_str (pe_slice sl_str (pv 2) po_none (po_some (pe_ix (k_ixT (K := K)) (pv 3) pe_int (fun _ _ => rfl)))) (pe_slice sl_str (pv 2) po_none (po_some (pv 4)))) po_none (po_some pe_int)) pa_nil))) (pv 3) (nomark _))))) (pss_one (ps_ret pe_bl)) pss_nil))))
      (pss_cons (ps_if (PW.pt (pw_and (pt_cmpR op_eq (pe_ix (k_ixT (K := K)) (pv 3) pe_int (fun _ _ => rfl)) pe_str (nomark _)) (pw_and1 (pt_cmpR op_gt (pe_ix (k_ixT (K := K)) (pv 3) pe_int (fun _ _ => rfl)) pe_int (nomark _))))) (pss_one (ps_ret (pe_cmpR op_eq (pe_ix (k_ixT (K := K)) (pe_g G_draw hgu (hr.mono (by decide)) (by rfl) m_draw F_draw.kp b_draw .nil pass0 (pa_cons (pv 1) (pa_cons (pe_slice sl_str (pv 2) po_none (po_some (pe_op op_sub (pe_ix (k_ixT (K := K)) (pv 3) pe_int (fun _ _ => rfl)) pe_int))) pa_nil))) pe_int (fun _ _ => rfl)) pe_str (nomark _)))) pss_nil)
      (pss_one (ps_ret (pe_or (pe_cmpR op_eq (pe_ix (k_ixT (K := K)) (pv 3) pe_int (fun _ _ => rfl)) pe_str (nomark _)) (pe_one (pe_cmpR op_eq (pe_ix (k_ixT (K := K)) (pv 3) pe_int (fun _ _ => rfl)) (pe_g G_open_at hgu (hr.mono (by decide)) (by rfl) m_open_at F_open_at.kp b_open_at .nil pass0 (pa_cons (pv 1) (pa_cons (pe_callB call_len_str (by rfl) T.len (by decide +kernel) (pa_cons (pv 2) pa_nil)) pa_nil))) (nomark _)))))))))), ?_⟩
    refine ⟨_, rfl, _, rfl, m, gs, rfl, m1, m2, hl, hg, fun p H1 s1 hp => ?_⟩
    have sl : (S gs).length = gs.length := S_len gs
    have sz : (S gs).length ≤ sizeLine := by rw [sl]; exact Nat.le_of_lt (small1000 (by omega))
    have hgt : ∀ n, ∀ g ∈ gs.take n, isBit g := fun n g h => hg g (List.mem_of_mem_take h)
    have lt_ : ∀ n, (gs.take n).length ≤ 400 := fun n => by rw [List.length_take]; omega
    have big : 4 ^ 401 * 10 ^ 61 < 10 ^ 4300 := by decide +kernel
    have okA : ∀ n, OkD (outD (due m (bitsOf (gs.take n)))) ∧ (outD (due m (bitsOf (gs.take n)))).bulk ≤ 10 := fun n => ok_out (due_small m2 (lt_ n) (hgt n)) big
    have ok3 := ok_out3 (ok_out (due_small m2 hl hg) big)
    clear big
    generalize ho : due m (bitsOf gs) = o at hp ok3
    -- the row itself
    refine ⟨_, rfl, _, rfl, m, gs, rfl, m1, m2, hl, hg, fun p1 Ha sa ha => ⟨_, rfl, _, rfl, m, gs, rfl, m1, m2, hl, hg, fun p2 Hb sb hb => ⟨_, rfl, _, rfl, m, gs, rfl, m1, m2, hl, hg, fun p3 Hc sc hc => ⟨by show 3 ≤ sizeLine; decide, fun g ng => ?_⟩⟩⟩⟩
    rw [ho] at ha hb hc
    have sd := same_new (o := .lst [.ref p1, .ref p2, .ref p3]) ng
    refine ⟨_, rfl, .inl ⟨.list [outD o, outD o, outD o], .lst (SqL.of upd_same) (.cons (dp_out (sameT ((sb.trans sc).trans sd) ha)) (.cons (dp_out (sameT (sc.trans sd) hb)) (.cons (dp_out (sameT sd hc)) .nil))), ok3.tell, Nat.le_trans ok3.dep (by decide), ok3.shown, ?_⟩⟩
    have s2 := ((sa.trans sb).trans sc).trans sd
    have hp2 := sameT s2 hp
    generalize upd Hc g (.lst [.ref p1, .ref p2, .ref p3]) = H2 at s2 hp2 ⊢
    refine ⟨_, rfl, by show 1 ≤ sizeLine; decide, fun w1 nw1 => ⟨w1, 3, [.ref p], rfl, rfl, upd_same, by decide, by decide, (by show 1 * 3 ≤ sizeLine; decide), fun w2 nw2 => ?_⟩⟩
    rw [show (List.replicate (Int.toNat 3) [V.ref p]).flatten = [.ref p, .ref p, .ref p] from rfl]
    have s3 := (same_new (o := .lst [.ref p]) nw1).trans (same_new (o := .lst [.ref p, .ref p, .ref p]) nw2)
    have hp3 := sameT s3 hp2
    refine ⟨_, rfl, .inl ⟨.list [outD o, outD o, outD o], .lst (SqL.of upd_same) (.cons (dp_out hp3) (.cons (dp_out hp3) (.cons (dp_out hp3) .nil))), ok3.tell, Nat.le_trans ok3.dep (by decide), ok3.shown, ?_⟩⟩
    refine rNe_same ⟨_, rfl, iteF ?_⟩
    have s3' := s1.trans (s2.trans s3)
    generalize upd (upd H2 w1 (.lst [.ref p])) w2 (.lst [.ref p, .ref p, .ref p]) = H3 at s3' hp3 ⊢
    have D3 := D0.same s3'
    -- the beginnings that are drawn
    refine ⟨3, rfl, by decide, by decide, fun E1 nE1 => lc_draws (n := (3 : Int).toNat) (B := fun x => 0 ≤ x ∧ x < gs.length + 1) D3 nE1 (by decide) (fun i H4 hi D4 k4 R hR => ?_) (fun zs H4 hx hB he D4 k4 => ?_)⟩
    · refine ⟨_, rfl, _, rfl, _, rfl, sz, _, _, rfl, rfl, d, l, c + i, _, rfl, D4, by omega, by omega, by rw [sl]; omega, fun r H5 r0 r1 D5 k5 => hR r H5 ⟨r0, by rw [sl] at r1; exact r1⟩ D5 k5⟩
    refine ⟨by show 1 ≤ sizeLine; decide, fun z nz => ⟨E1, z, zs.map V.int, [.int 0], rfl, rfl, same_new nz _ _ he, upd_same, ?_, fun y ny => ?_⟩⟩
    · rw [List.length_map, hx]
      show 3 + 1 ≤ sizeLine
      decide
    have s5 := (same_new (o := .lst [.int 0]) nz).trans (same_new (o := .lst (zs.map V.int ++ [.int 0])) ny)
    have D5 := D4.same s5
    have k5 : Kept d l H _ := (Kept.of s3').trans (k4.trans (.of s5))
    have hp5 := sameT s5 (k4.tup D3 hp3)
    have hy5 : (upd (upd H4 z (.lst [.int 0])) y (.lst (zs.map V.int ++ [.int 0]))) y = some (.lst (zs.map V.int ++ [.int 0])) := upd_same
    generalize upd (upd H4 z (.lst [.int 0])) y (.lst (zs.map V.int ++ [.int 0])) = H5 at s5 D5 k5 hp5 hy5 ⊢
    have items : ∀ x ∈ zs.map V.int ++ [.int 0], ∃ n : Nat, x = .int n ∧ n ≤ gs.length := by
      intro x hx
      rcases List.mem_append.mp hx with hx | hx
      · obtain ⟨r, hr, rfl⟩ := List.mem_map.mp hx
        have := hB r hr
        exact ⟨r.toNat, by rw [Int.toNat_of_nonneg this.1], by omega⟩
      · rw [List.mem_singleton.mp hx]
        exact ⟨0, rfl, Nat.zero_le _⟩
    refine ⟨y, rfl, ⟨_, SqL.of hy5⟩, for_list (K := K) (a := y) (xs := zs.map V.int ++ [.int 0]) (fun i σ HI => ∃ y4, σ = [some (.ref d), some (.int m), some (.str (S gs)), some (.ref p), y4, none] ∧ Same H5 HI) ⟨none, rfl, Same.refl _⟩ (fun i σ HI _ ⟨_, _, sI⟩ => sI.seq (SqL.of hy5)) ?_ ?_⟩
    · rintro i x σ HI hx ⟨y4, rfl, sI⟩
      obtain ⟨n, rfl, hn⟩ := items x (List.mem_of_getElem? hx)
      have okn := okA n
      refine ⟨_, rfl, _, rfl, _, rfl, _, rfl, S gs, rfl, sz, m, gs.take n, by rw [cutS_to]; rfl, m1, m2, lt_ n, hgt n, fun p5 H6 s6 h6 => ?_⟩
      refine ⟨_, rfl, .inl ⟨outD (due m (bitsOf (gs.take n))), dp_out h6, okn.1.tell, Nat.le_trans okn.1.dep (by decide), okn.1.shown, ?_⟩⟩
      refine ⟨_, rfl, _, rfl, _, rfl, _, rfl, S gs, rfl, sz, m, gs.take n, by rw [cutS_to]; rfl, m1, m2, lt_ n, hgt n, fun p6 H7 s7 h7 => ?_⟩
      refine ⟨_, rfl, .inl ⟨outD (due m (bitsOf (gs.take n))), dp_out h7, okn.1.tell, Nat.le_trans okn.1.dep (by decide), okn.1.shown, ?_⟩⟩
      refine rNe_same ⟨_, rfl, iteF ?_⟩
      have sJ := sI.trans (s6.trans s7)
      have hp7 := sameT sJ hp5
      refine ⟨_, rfl, p, _, 0, _, rfl, rfl, hp7, atI_nat (j := 0) rfl, rfl, _, rfl, ?_⟩
      rcases nm_drawn o with ⟨e, x, y, rfl⟩ | ⟨e, x, y, rfl⟩
      · obtain ⟨k, rfl, hkl, hd, -⟩ := dueF_drawn _ ho
        have bl : (bitsOf gs).length = gs.length := List.length_map _
        have lk : (gs.take k).length = k := by rw [List.length_take]; omega
        have ec : cutS (cutS (S gs) none (some ((0 : Int) + k)) ++ cutS (S gs) none (some (n : Int))) none (some 400) = S ((gs.take k ++ gs.take n).take 400) := by
          rw [Int.zero_add, cutS_to, cutS_to, S_cat]
          exact cutS_to _ 400
        have lc2 : (cutS (S gs) none (some ((0 : Int) + k))).length + (cutS (S gs) none (some (n : Int))).length ≤ sizeLine := by
          have z1 := lt_ k
          have z2 := lt_ n
          rw [Int.zero_add, cutS_to, cutS_to, S_len, S_len]
          exact Nat.le_of_lt (small1000 (by omega))
        have lc3 : (cutS (S gs) none (some ((0 : Int) + k)) ++ cutS (S gs) none (some (n : Int))).length ≤ sizeLine := by
          have z1 := lt_ k
          have z2 := lt_ n
          rw [Int.zero_add, cutS_to, cutS_to, S_cat, S_len, List.length_append]
          exact Nat.le_of_lt (small1000 (by omega))
        have ed : due m (bitsOf ((gs.take k ++ gs.take n).take 400)) = .drawn x (0 + k) := by
          rw [S_cut400 lk (by omega), bits_app, bits_take]
          exact hd _
        refine ifT e ⟨_, rfl, _, rfl, _, rfl, p, _, 2, _, rfl, rfl, hp7, atI_nat (j := 2) rfl, _, rfl, S gs, rfl, sz, _, rfl, _, rfl, _, rfl, S gs, rfl, sz, _, _, rfl, rfl, lc2, _, rfl, _, rfl, lc3, m, (gs.take k ++ gs.take n).take 400, ?_, m1, m2, ?_, ?_, fun p8 H8 s8 h8 => ?_⟩
        · rw [← ec]
          rfl
        · rw [List.length_take]
          omega
        · intro g hm
          rcases List.mem_append.mp (List.mem_of_mem_take hm) with hm | hm
          · exact hgt _ g hm
          · exact hgt _ g hm
        · rw [ed] at h8
          refine ⟨_, rfl, outD _, outD _, dp_out h8, dp_out (sameT s8 hp7), shaped_out _, shaped_out _, _, rfl, ?_⟩
          rw [eqv_out]
          exact iteF ⟨_, rfl, sJ.trans s8⟩
      · refine ifF e (iteF ⟨_, rfl, sJ⟩)
    · rintro σ HI ⟨y4, rfl, sI⟩
      have hpI := sameT sI hp5
      have DI := D5.same sI
      have kI : Kept d l H HI := k5.trans (.of sI)
      refine ⟨_, rfl, p, _, 0, _, rfl, rfl, hpI, atI_nat (j := 0) rfl, rfl, _, rfl, ?_⟩
      rcases nm_drawn o with ⟨e, x, y, rfl⟩ | ⟨e, x, y, rfl⟩
      · refine ifT e ⟨_, rfl, p, _, 2, _, rfl, rfl, hpI, atI_nat (j := 2) rfl, _, _, rfl, rfl, _, rfl, ite2 (fun h0 => ?_) (fun h0 => ?_)⟩
        · obtain ⟨k, rfl, hkl, -, hop⟩ := dueF_drawn _ ho
          have k0 : 0 < k := by
            have := of_decide_eq_true h0
            show 0 < k
            have z : (0 : Int) < 0 + k := this
            omega
          obtain ⟨u, v, eu⟩ := hop (k - 1) (by omega)
          have ed : due m (bitsOf (gs.take (k - 1))) = .opened u v := by
            rw [bits_take]
            exact eu
          refine ⟨_, rfl, _, rfl, _, rfl, p, _, 2, _, rfl, rfl, hpI, atI_nat (j := 2) rfl, _, _, rfl, rfl, _, rfl, S gs, rfl, sz, m, gs.take (k - 1), ?_, m1, m2, lt_ _, hgt _, fun p8 H8 s8 h8 => ?_⟩
          · rw [← cutS_to, show ((k - 1 : Nat) : Int) = 0 + (k : Int) - 1 by omega]
            rfl
          · rw [ed] at h8
            refine ⟨p8, _, 0, _, rfl, rfl, h8, atI_nat (j := 0) rfl, rfl, ?_⟩
            have z : decide (V.str "open" = V.str "open") = true := decide_eq_true rfl
            show Q (.bl (decide (V.str "open" = V.str "open"))) H8
            rw [z]
            exact q H8 (DI.same s8) (kI.trans (.of s8))
        · exact ⟨_, rfl, p, _, 0, _, rfl, rfl, hpI, atI_nat (j := 0) rfl, rfl, _, rfl, ifT e (q HI DI kI)⟩
      · refine ifF e (iteF ⟨_, rfl, p, _, 0, _, rfl, rfl, hpI, atI_nat (j := 0) rfl, rfl, _, rfl, ifF e ?_⟩)
        refine ⟨_, rfl, p, _, 1, _, rfl, rfl, hpI, atI_nat (j := 1) rfl, _, rfl, _, rfl, _, rfl, sz, m, gs.length, ?_, m1, m2, hl, fun H8 s8 => ⟨rfl, ?_⟩⟩
        · rw [sl]
          rfl
        · have z := due_open (by omega) ho
          have bl : (bitsOf gs).length = gs.length := List.length_map _
          rw [bl] at z
          subst z
          have z2 : decide (V.int (2 ^ gs.length % (m : Int)) = V.int (2 ^ gs.length % (m : Int))) = true := decide_eq_true rfl
          show Q (.bl (decide (V.int (2 ^ gs.length % (m : Int)) = V.int (2 ^ gs.length % (m : Int))))) H8
          rw [z2]
          exact q H8 (DI.same s8) (kI.trans (.of s8))
end
end SG

namespace SG
open PySem PySem.Spec PyProof.Rows L2 TL
open SX (S S_tl S_len S_cat)
section
variable {P : Program} {w : World} {K : PySem.W.Frag} {mg : Str → Option Value} {base : Heap}
theorem limit_tell {σ : L2.St} {H : Hp} {Q : VK} {i : Nat} {z : Int} (e : σ[i]? = some (some (.int z))) (q : ∀ n : Nat, n ≤ 400 → Q (.int n) H) : tIf (tTest (tOp rEq (tVar i) (tC (V.int 4)))) (tC (V.int 400)) (tC (V.int 16)) σ H Q :=
  ⟨_, e, rfl, _, rfl, ite2 (fun _ => q 400 (by decide)) (fun _ => q 16 (by decide))⟩
theorem rNe_same2 {t : Str} {H : Hp} {Q : VK} (q : Q (.bl false) H) : rNe (.str t) (.str t) H Q := ⟨rfl, by rw [decide_eq_true (rfl : V.str t = V.str t)]; exact q⟩
theorem ok_four {x y : Int} (hx : x.natAbs < 10 ^ 4300) (hy : y.natAbs < 10 ^ 4300) : OkD (.list [.int x, .int x, .int y, .int y]) := by
  have dep : ∀ i : Int, (PyData.int i).depth ≤ 49 := dep0
  refine (OkA.cons (.int hx) (dep x) (OkA.cons (.int hx) (dep x) (OkA.cons (.int hy) (dep y) (OkA.cons (.int hy) (dep y) .nil)))).list ?_
  clear hx hy
  simp only [PyData.bulkAll, PyData.bulk]
  omega
theorem small_mod {m : Nat} {p : Int} (m1 : 1 ≤ m) (m2 : m < 10 ^ 60) : (p % (m : Int)).natAbs < 10 ^ 4300 := by
  have h0 := Int.emod_nonneg p (show (m : Int) ≠ 0 by omega)
  have h1 := Int.emod_lt_of_pos p (show (0 : Int) < m by omega)
  exact Nat.lt_of_lt_of_le (by omega : (p % (m : Int)).natAbs < 10 ^ 60) (by decide +kernel)
theorem small_leaves {m : Nat} {p : Int} (m2 : m < 10 ^ 60) : (leavesOf m p).natAbs < 10 ^ 4300 := by
  have h := leavesOf_abs m p
  rw [Int.natAbs_natCast] at h
  exact Nat.lt_of_lt_of_le (by omega : (leavesOf m p).natAbs < 10 ^ 60) (by decide +kernel)
def spLaw (K : PySem.W.Frag) : Sp := fun vs H Q _ => ∃ (a : Addr) (ns : List Int), vs = [.ref a] ∧ SqL K H a (ns.map V.int) ∧ ns.length ≤ 63 ∧ ∀ H2, Q (.bl true) H2
theorem ok_law {f a1 a2 a3 a4 a5 a6 a7 a8 a9 a10 a11 : Addr} {fd d1 d2 d3 d4 d5 d6 d7 d8 d9 d10 d11 : FuncData} (hdg : base.NoDigits) (F : Fun K "law" "law" s_law f fd)
    (F__law_draw : Fun K "_law_draw" "_law_draw" s__law_draw a1 d1) (m__law_draw : mg "_law_draw" = some (.ref a1)) (b__law_draw : Binds K d1 ["_law_deck_here", "_law_much"] [])
    (F__law_pick : Fun K "_law_pick" "_law_pick" s__law_pick a2 d2) (m__law_pick : mg "_law_pick" = some (.ref a2)) (b__law_pick : Binds K d2 ["_law_deck_here", "_law_some"] [])
    (F__law_deck : Fun K "_law_deck" "_law_deck" s__law_deck a3 d3) (m__law_deck : mg "_law_deck" = some (.ref a3)) (b__law_deck : Binds K d3 ["_law_script"] [])
    (F__law_tosses : Fun K "_law_tosses" "_law_tosses" s__law_tosses a4 d4) (m__law_tosses : mg "_law_tosses" = some (.ref a4)) (b__law_tosses : Binds K d4 ["_law_deck_here", "_law_limit"] [])
    (F__law_twos : Fun K "_law_twos" "_law_twos" s__law_twos a5 d5) (m__law_twos : mg "_law_twos" = some (.ref a5)) (b__law_twos : Binds K d5 ["_law_much"] [])
    (F__law_many : Fun K "_law_many" "_law_many" s__law_many a6 d6) (m__law_many : mg "_law_many" = some (.ref a6)) (b__law_many : Binds K d6 ["_law_deck_here"] [])
    (F__law_due : Fun K "_law_due" "_law_due" s__law_due a7 d7) (m__law_due : mg "_law_due" = some (.ref a7)) (b__law_due : Binds K d7 ["_law_much", "_law_flips"] [])
    (F__law_right : Fun K "_law_right" "_law_right" s__law_right a8 d8) (m__law_right : mg "_law_right" = some (.ref a8)) (b__law_right : Binds K d8 ["_law_deck_here", "_law_much", "_law_flips"] [])
    (G_draw : GFn P w K mg base CX0 4 a9 d9 ["many", "tosses"] (spDue K)) (F_draw : Fun K "draw" "draw" s_draw a9 d9) (m_draw : mg "draw" = some (.ref a9)) (b_draw : Binds K d9 ["many", "tosses"] []) (kb_draw_tosses_many : KBinds K d9 ["many", "tosses"] ["tosses", "many"] kwTurn kwTurn)
    (G_open_at : GFn P w K mg base CX0 4 a10 d10 ["many", "depth"] spOpenAt) (F_open_at : Fun K "open_at" "open_at" s_open_at a10 d10) (m_open_at : mg "open_at" = some (.ref a10)) (b_open_at : Binds K d10 ["many", "depth"] []) (kb_open_at_depth_many : KBinds K d10 ["many", "depth"] ["depth", "many"] kwTurn kwTurn)
    (G_leaves_at : GFn P w K mg base CX0 4 a11 d11 ["many", "depth"] spLeavesAt) (F_leaves_at : Fun K "leaves_at" "leaves_at" s_leaves_at a11 d11) (m_leaves_at : mg "leaves_at" = some (.ref a11)) (b_leaves_at : Binds K d11 ["many", "depth"] []) (kb_leaves_at_depth_many : KBinds K d11 ["many", "depth"] ["depth", "many"] kwTurn kwTurn) (T : Txt mg) :
    GFn P w K mg base CX0 6 f fd ["_law_script"] (spLaw K) := by
  have G__law_deck : GFn P w K mg base CX0 1 a3 d3 ["_law_script"] (spDeck K) := ok_deck F__law_deck T
  have G__law_draw : GFn P w K mg base CX0 1 a1 d1 ["_law_deck_here", "_law_much"] spDraw := ok_draw F__law_draw T
  have G__law_tosses : GFn P w K mg base CX0 3 a4 d4 ["_law_deck_here", "_law_limit"] (spTosses K) := ok_tosses F__law_tosses F__law_draw m__law_draw b__law_draw F__law_pick m__law_pick b__law_pick T
  have G__law_twos : GFn P w K mg base CX0 1 a5 d5 ["_law_much"] spTwos := ok_twos F__law_twos T
  have G__law_many : GFn P w K mg base CX0 3 a6 d6 ["_law_deck_here"] (spMany K) := ok_many F__law_many F__law_draw m__law_draw b__law_draw F__law_pick m__law_pick b__law_pick T
  have G__law_right : GFn P w K mg base CX0 5 a8 d8 ["_law_deck_here", "_law_much", "_law_flips"] (spRight K) := ok_right hdg F__law_right F__law_draw m__law_draw b__law_draw F__law_due m__law_due b__law_due G_draw F_draw m_draw b_draw kb_draw_tosses_many G_open_at F_open_at m_open_at b_open_at T
  refine gfun_ok F sc_law (fun vs H Q E h => ?_) (fun cdv A outer s H vs Q E hgu hr h => ?_)
  · obtain ⟨a, ns, rfl, _⟩ := h
    rfl
  · obtain ⟨a, ns, rfl, hS, hlen, q⟩ := h
    have nd := sc_law.nd
    refine ⟨_, (pss_cons (ps_set (i := 1) nd rfl (Or.inl rfl) (pe_g G__law_deck hgu (hr.mono (by decide)) (by rfl) m__law_deck F__law_deck.kp b__law_deck .nil pass0 (pa_cons (pv 0) pa_nil)))
      (pss_cons (ps_for PassesOwn.never rfl (pi_range1 rfl T.range (pa_cons pe_int pa_nil)) (pg_name (i := 2) nd rfl (Or.inl rfl))
        (pss_cons (ps_set (i := 3) nd rfl (Or.inl rfl) (pe_g G__law_many hgu (hr.mono (by decide)) (by rfl) m__law_many F__law_many.kp b__law_many .nil pass0 (pa_cons (pv 1) pa_nil)))
      (pss_cons (ps_set (i := 4) nd rfl (Or.inl rfl) (pe_g G__law_tosses hgu (hr.mono (by decide)) (by rfl) m__law_tosses F__law_tosses.kp b__law_tosses .nil pass0 (pa_cons (pv 1) (pa_cons (pe_ifExp (pt_cmpR op_eq (pv 2) pe_int (nomark _)) pe_int pe_int) pa_nil))))
      (pss_cons (ps_if (pt_not (pt_val (pe_g G__law_right hgu (hr.mono (by decide)) (by rfl) m__law_right F__law_right.kp b__law_right .nil pass0 (pa_cons (pv 1) (pa_cons (pv 3) (pa_cons (pv 4) pa_nil)))))) (pss_one (ps_ret pe_bl)) pss_nil)
      (pss_one (ps_for PassesOwn.never rfl (pi_list (pe_lst (pa_cons (pe_g G__law_draw hgu (hr.mono (by decide)) (by rfl) m__law_draw F__law_draw.kp b__law_draw .nil pass0 (pa_cons (pv 1) (pa_cons pe_int pa_nil))) (pa_cons (pe_g G__law_draw hgu (hr.mono (by decide)) (by rfl) m__law_draw F__law_draw.kp b__law_draw .nil pass0 (pa_cons (pv 1) (pa_cons pe_int pa_nil))) (pa_cons pe_int pa_nil))))) (pg_name (i := 5) nd rfl (Or.inl rfl))
        (pss_cons (ps_set (i := 6) nd rfl (Or.inl rfl) (pe_g G__law_twos hgu (hr.mono (by decide)) (by rfl) m__law_twos F__law_twos.kp b__law_twos .nil pass0 (pa_cons (pv 5) pa_nil)))
      (pss_cons (ps_set (i := 7) nd rfl (Or.inl rfl) (pe_ifExp (pt_cmpR op_eq (pe_op op_mod (pe_op op_fdivW (pv 6) (pv 3)) pe_int) pe_int (nomark _)) (pv 3) pe_int))
      (pss_cons (ps_set (i := 8) nd rfl (Or.inl rfl) (pe_lst (pa_cons (pe_op op_mod (pv 6) (pv 3)) (pa_cons (pe_op op_mod (pv 6) (pv 3)) (pa_cons (pv 7) (pa_cons (pv 7) pa_nil))))))
      (pss_cons (ps_set (i := 9) nd rfl (Or.inl rfl) (pe_lst (pa_cons (pe_g G_open_at hgu (hr.mono (by decide)) (by rfl) m_open_at F_open_at.kp b_open_at .nil pass0 (pa_cons (pv 3) (pa_cons (pv 5) pa_nil))) (pa_cons (pe_gK0 G_open_at hgu (hr.mono (by decide)) (by rfl) m_open_at F_open_at.kp kb_open_at_depth_many pass0 (pk_cons (pv 5) (pk_cons (pv 3) pk_nil))) pa_nil))))
      (pss_cons (ps_set (i := 9) nd rfl (Or.inl rfl) (pe_op op_cat (pv 9) (pe_lst (pa_cons (pe_g G_leaves_at hgu (hr.mono (by decide)) (by rfl) m_leaves_at F_leaves_at.kp b_leaves_at .nil pass0 (pa_cons (pv 3) (pa_cons (pv 5) pa_nil))) (pa_cons (pe_gK0 G_leaves_at hgu (hr.mono (by decide)) (by rfl) m_leaves_at F_leaves_at.kp kb_leaves_at_depth_many pass0 (pk_cons (pv 5) (pk_cons (pv 3) pk_nil))) pa_nil)))))
      (pss_one (ps_if (pt_cmpR op_ne (pe_callB (k_repr (K := K) hdg hgu hr) (by rfl) T.repr (by decide +kernel) (pa_cons (pv 9) pa_nil)) (pe_callB (k_repr (K := K) hdg hgu hr) (by rfl) T.repr (by decide +kernel) (pa_cons (pv 8) pa_nil)) (nomark _)) (pss_one (ps_ret pe_bl)) pss_nil)))))))))))))
      (pss_one (ps_ret pe_bl)))), ?_⟩
    refine ⟨.ref a, rfl, a, ns, rfl, hS, hlen, fun d l H1 D1 s1 => ?_⟩
    refine ⟨5, rfl, by decide, by decide, for_range (lo := 0) (n := 5) (fun i σ HI => ∃ (y2 y3 y4 y5 y6 y7 y8 y9 : Option V), σ = [some (.ref a), some (.ref d), y2, y3, y4, y5, y6, y7, y8, y9] ∧ Deck HI d l (i * 500)) ⟨none, none, none, none, none, none, none, none, rfl, D1⟩ ?_ ?_⟩
    · rintro i σ HI hi ⟨y2, y3, y4, y5, y6, y7, y8, y9, rfl, DI⟩
      refine ⟨_, rfl, d, l, _, rfl, DI, by omega, fun m H2 m1 m2 D2 k2 => ?_⟩
      have tos : ∀ (R : VK), (∀ n : Nat, n ≤ 400 → R (.int n) H2) → tIf (tTest (tOp rEq (tVar 2) (tC (V.int 4)))) (tC (V.int 400)) (tC (V.int 16)) (([some (V.ref a), some (V.ref d), y2, y3, y4, y5, y6, y7, y8, y9].set 2 (some (V.int (0 + i)))).set 3 (some (V.int m))) H2 R := fun R hR => limit_tell rfl hR
      refine ⟨_, rfl, tos _ fun n hn => ⟨d, l, _, n, rfl, D2, by omega, hn, fun gs H3 hl hg D3 k3 => ?_⟩⟩
      refine ⟨_, rfl, _, rfl, _, rfl, d, l, _, m, gs, rfl, D3, by omega, m1, m2, by omega, hg, fun H4 D4 k4 => ⟨true, rfl, iteF ?_⟩⟩
      -- the depths
      refine ⟨_, rfl, d, l, _, 12, rfl, D4, by omega, by decide, by decide, fun r1 H5 r10 r11 D5 k5 => ⟨_, rfl, d, l, _, 401, rfl, D5, by omega, by decide, by decide, fun r2 H6 r20 r21 D6 k6 => ⟨by show 3 ≤ sizeLine; decide, fun y ny => ?_⟩⟩⟩
      have D7 := D6.upd (o := .lst [.int r1, .int r2, .int 0]) ny
      have hy : (upd H6 y (.lst [.int r1, .int r2, .int 0])) y = some (.lst [.int r1, .int r2, .int 0]) := upd_same
      generalize upd H6 y (.lst [.int r1, .int r2, .int 0]) = H7 at D7 hy ⊢
      have items : ∀ x ∈ [V.int r1, .int r2, .int 0], ∃ n : Nat, x = .int n ∧ n ≤ 400 := by
        intro x hx
        simp only [List.mem_cons, List.not_mem_nil, or_false] at hx
        rcases hx with rfl | rfl | rfl
        · exact ⟨r1.toNat, by rw [Int.toNat_of_nonneg r10], by omega⟩
        · exact ⟨r2.toNat, by rw [Int.toNat_of_nonneg r20], by omega⟩
        · exact ⟨0, rfl, by decide⟩
      refine ⟨y, rfl, ⟨_, SqL.of hy⟩, for_list (K := K) (a := y) (xs := [.int r1, .int r2, .int 0]) (fun j σ HJ => ∃ (z5 z6 z7 z8 z9 : Option V), σ = [some (.ref a), some (.ref d), some (.int (0 + i)), some (.int m), some (.str (S gs)), z5, z6, z7, z8, z9] ∧ Same H7 HJ) ⟨y5, y6, y7, y8, y9, rfl, Same.refl _⟩ (fun j σ HJ _ ⟨_, _, _, _, _, _, sJ⟩ => sJ.seq (SqL.of hy)) ?_ ?_⟩
      · rintro j x σ HJ hx ⟨z5, z6, z7, z8, z9, rfl, sJ⟩
        obtain ⟨n, rfl, hn⟩ := items x (List.mem_of_getElem? hx)
        have mp : (0 : Int) < m := by omega
        refine ⟨_, rfl, n, rfl, by omega, ?_⟩
        refine leaf_tell rfl rfl m1 m2 ?_
        refine ⟨_, rfl, _, rfl, _, _, rfl, rfl, mp, _, rfl, _, rfl, _, _, rfl, rfl, mp, _, rfl, _, rfl, by show 4 ≤ sizeLine; decide, fun u nu => ?_⟩
        have su := same_new (o := .lst [.int (2 ^ n % m), .int (2 ^ n % m), .int (leavesOf m (2 ^ n)), .int (leavesOf m (2 ^ n))]) nu
        have hu : (upd HJ u (.lst [.int (2 ^ n % m), .int (2 ^ n % m), .int (leavesOf m (2 ^ n)), .int (leavesOf m (2 ^ n))])) u = some (.lst [.int (2 ^ n % m), .int (2 ^ n % m), .int (leavesOf m (2 ^ n)), .int (leavesOf m (2 ^ n))]) := upd_same
        change gName 8 _ _ (upd HJ u (.lst [.int (2 ^ n % m), .int (2 ^ n % m), .int (leavesOf m (2 ^ n)), .int (leavesOf m (2 ^ n))])) _
        generalize upd HJ u (.lst [.int (2 ^ n % m), .int (2 ^ n % m), .int (leavesOf m (2 ^ n)), .int (leavesOf m (2 ^ n))]) = HK at su hu ⊢
        refine ⟨_, rfl, _, rfl, m, n, rfl, m1, m2, hn, fun Ha sa => ⟨_, rfl, _, rfl, m, n, rfl, m1, m2, hn, fun Hb sb => ⟨by show 2 ≤ sizeLine; decide, fun v nv => ?_⟩⟩⟩
        have hv : (upd Hb v (.lst [.int (2 ^ n % m), .int (2 ^ n % m)])) v = some (.lst [.int (2 ^ n % m), .int (2 ^ n % m)]) := upd_same
        have sv := same_new (o := .lst [.int (2 ^ n % m), .int (2 ^ n % m)]) nv
        refine ⟨_, rfl, _, rfl, _, rfl, m, n, rfl, m1, m2, hn, fun Hc sc => ⟨_, rfl, _, rfl, m, n, rfl, m1, m2, hn, fun Hd sd => ⟨by show 2 ≤ sizeLine; decide, fun x nx => ?_⟩⟩⟩
        have sx := same_new (o := .lst [.int (leavesOf m (2 ^ n)), .int (leavesOf m (2 ^ n))]) nx
        refine ⟨v, x, [.int (2 ^ n % m), .int (2 ^ n % m)], [.int (leavesOf m (2 ^ n)), .int (leavesOf m (2 ^ n))], rfl, rfl, ((sc.trans sd).trans sx) _ _ hv, upd_same, by show 4 ≤ sizeLine; decide, fun t nt => ?_⟩
        have ok4 := ok_four (small_mod (p := 2 ^ n) m1 m2) (small_leaves (p := 2 ^ n) m2)
        have st := same_new (o := .lst ([.int (2 ^ n % m), .int (2 ^ n % m)] ++ [.int (leavesOf m (2 ^ n)), .int (leavesOf m (2 ^ n))])) nt
        have sall := ((((sa.trans sb).trans sv).trans (sc.trans sd)).trans sx).trans st
        refine ⟨_, rfl, _, rfl, .inl ⟨.list [.int (2 ^ n % m), .int (2 ^ n % m), .int (leavesOf m (2 ^ n)), .int (leavesOf m (2 ^ n))], .lst (SqL.of upd_same) (.cons (.int _) (.cons (.int _) (.cons (.int _) (.cons (.int _) .nil)))), ok4.tell, Nat.le_trans ok4.dep (by decide), ok4.shown, ?_⟩⟩
        refine ⟨_, rfl, _, rfl, .inl ⟨.list [.int (2 ^ n % m), .int (2 ^ n % m), .int (leavesOf m (2 ^ n)), .int (leavesOf m (2 ^ n))], .lst (SqL.of (sall _ _ hu)) (.cons (.int _) (.cons (.int _) (.cons (.int _) (.cons (.int _) .nil)))), ok4.tell, Nat.le_trans ok4.dep (by decide), ok4.shown, ?_⟩⟩
        refine rNe_same2 ⟨_, rfl, iteF ?_⟩
        exact ⟨_, _, _, _, _, rfl, sJ.trans (su.trans sall)⟩
      · rintro σ HJ ⟨z5, z6, z7, z8, z9, rfl, sJ⟩
        refine ⟨_, _, _, _, _, _, _, _, rfl, (D7.same sJ).mono (by omega)⟩
    · rintro σ HI ⟨y2, y3, y4, y5, y6, y7, y8, y9, rfl, DI⟩
      exact q HI
end
end SG

namespace SG
open PySem PySem.Spec PyProof.Rows L2 TL
open SX (S S_tl S_len)
section
variable {P : Program} {w : World} {K : PySem.W.Frag} {mg : Str → Option Value} {base : Heap}
theorem bit_tell {σ : L2.St} {H : Hp} {Q : VK} {i : Nat} {g : Nat} (h : isBit g) (e : σ[i]? = some (some (.str ⟨#[g]⟩))) (q : Q (.int ((g : Int) - 48)) H) : tIf (tTest (tOp rEq (tVar i) (tC (V.str "1")))) (tC (V.int 1)) (tC (V.int 0)) σ H Q := by
  refine ⟨_, e, rfl, _, rfl, ?_⟩
  rcases h with rfl | rfl
  · have z : decide (V.str ⟨#[48]⟩ = V.str "1") = false := by decide +kernel
    exact ifF z q
  · have z : decide (V.str ⟨#[49]⟩ = V.str "1") = true := by decide +kernel
    exact ifT z q
theorem ok_drawP {f : Addr} {fd : FuncData} (F : Fun K "draw" "draw" s_draw f fd) (T : Txt mg) : GFn P w K mg base CX0 1 f fd ["many", "tosses"] (spDue K) := by
  refine gfun_ok F sc_draw (fun vs H Q E h => ?_) (fun cdv A outer s H vs Q E hgu hr h => ?_)
  · obtain ⟨m, gs, rfl, _⟩ := h
    rfl
  · obtain ⟨m, gs, rfl, m1, m2, hl, hg, q⟩ := h
    have nd := sc_draw.nd
    have bl : (bitsOf gs).length = gs.length := List.length_map _
    have nn : ∀ x ∈ bitsOf gs, 0 ≤ x := by
      intro x hx
      obtain ⟨g, hm, rfl⟩ := List.mem_map.mp hx
      rcases hg g hm with rfl | rfl <;> decide
    refine ⟨_, (pss_cons (ps_if (pt_cmpR op_eq (pv 0) pe_int (nomark _)) (pss_one (ps_ret (pe_tup (pa_cons pe_str (pa_cons pe_int (pa_cons pe_int pa_nil)))))) pss_nil)
      (pss_cons (ps_set (i := 2) nd rfl (Or.inl rfl) pe_int)
      (pss_cons (ps_set (i := 3) nd rfl (Or.inl rfl) pe_int)
      (pss_cons (ps_for PassesOwn.never rfl (pi_enumS (by rfl) T.enumerate (pa_cons (pv 1) pa_nil) (pk_cons pe_int pk_nil)) (k_tg (K := K) (n := 2) rfl (pgs_cons (pg_name (i := 4) nd rfl (Or.inl rfl)) (pgs_cons (pg_name (i := 5) nd rfl (Or.inl rfl)) pgs_nil)))
        (pss_cons (ps_set (i := 2) nd rfl (Or.inl rfl) (pe_op op_mul pe_int (pv 2)))
      (pss_cons (ps_set (i := 3) nd rfl (Or.inl rfl) (pe_op op_add (pe_op op_mul pe_int (pv 3)) (pe_ifExp (pt_cmpR op_eq (pv 5) pe_str (nomark _)) pe_int pe_int)))
      (pss_one (ps_if (pt_cmpR op_ge (pv 2) (pv 0) (nomark _)) (pss_cons (ps_if (pt_cmpR op_lt (pv 3) (pv 0) (nomark _)) (pss_one (ps_ret (pe_tup (pa_cons pe_str (pa_cons (pv 3) (pa_cons (pv 4) pa_nil)))))) pss_nil)
      (pss_cons (ps_aug (i := 2) nd rfl (Or.inl rfl) (pv 0) ip_sub)
      (pss_one (ps_aug (i := 3) nd rfl (Or.inl rfl) (pv 0) ip_sub)))) pss_nil)))))
      (pss_one (ps_ret (pe_tup (pa_cons pe_str (pa_cons (pv 2) (pa_cons (pv 3) pa_nil)))))))))), ?_⟩
    refine ⟨_, rfl, rfl, _, rfl, ite2 (fun h1 => ?_) (fun h1 => ?_)⟩
    · rw [dec_int, beq_iff_eq] at h1
      refine ⟨by show 3 ≤ sizeLine; decide, fun z nz => q z _ (same_new nz) (.inl (.inl ?_))⟩
      rw [upd_same, h1, due_one]
      rfl
    · rw [dec_int, beq_iff_eq] at h1
      have hm : (1 : Int) < m := by omega
      refine ⟨_, rfl, S gs, 1, rfl, rfl, by decide, for_it walk_enumS (fun i σ HI => ∃ (ps p : Int) (y4 y5 : Option V), σ = [some (.int m), some (.str (S gs)), some (.int ps), some (.int p), y4, y5] ∧ Same H HI ∧
        drawF m ps p i ((bitsOf gs).drop i) = due m (bitsOf gs)) ⟨1, 0, none, none, rfl, Same.refl _, ?_⟩ (fun _ _ _ _ _ => trivial) ?_ ?_⟩
      · rw [due_drawF hm _ nn]
        rfl
      · rintro i x σ HI HJ hi ⟨ps, p, y4, y5, rfl, sH, hd⟩ ⟨t, c, rfl, nt, hc, rfl⟩
        have hi2 : i < gs.length := hi
        have ec : gs[i] = c := by
          have z : gs[i]? = some c := by simpa [S] using hc
          rw [List.getElem?_eq_getElem hi2] at z
          exact Option.some.inj z
        have hb := hg _ (List.getElem_mem hi2)
        have eb : (bitsOf gs).drop i = ((gs[i] : Int) - 48) :: (bitsOf gs).drop (i + 1) := by
          rw [List.drop_eq_getElem_cons (by rw [bl]; exact hi2)]
          simp [bitsOf]
        rw [ec] at hb eb
        rw [eb] at hd
        have sJ := sH.trans (same_new (o := .tup [.int ((1 + i : Nat) : Int), .str ⟨#[c]⟩]) nt)
        refine ⟨t, _, rfl, .inl (.inl upd_same), rfl, _, _, rfl, _, _, rfl, rfl, ?_⟩
        generalize upd HI t (.tup [.int ((1 + i : Nat) : Int), .str ⟨#[c]⟩]) = HK at sJ ⊢
        refine ⟨_, rfl, _, _, rfl, rfl, .inl ⟨by decide, by decide⟩, ?_⟩
        refine ⟨_, rfl, _, _, rfl, rfl, .inl ⟨by decide, by decide⟩, ?_⟩
        refine bit_tell hb rfl ⟨_, _, rfl, rfl, ?_⟩
        have step : drawF m ps p i (((c : Int) - 48) :: (bitsOf gs).drop (i + 1)) = if (m : Int) ≤ 2 * ps then (if 2 * p + ((c : Int) - 48) < m then .drawn (2 * p + ((c : Int) - 48)) (i + 1) else drawF m (2 * ps - m) (2 * p + ((c : Int) - 48) - m) (i + 1) ((bitsOf gs).drop (i + 1))) else drawF m (2 * ps) (2 * p + ((c : Int) - 48)) (i + 1) ((bitsOf gs).drop (i + 1)) := rfl
        rw [step] at hd
        refine ⟨_, rfl, _, rfl, _, _, rfl, rfl, _, rfl, ite2 (fun h2 => ?_) (fun h2 => ?_)⟩
        · have h2 := of_decide_eq_true h2
          rw [if_pos h2] at hd
          refine ⟨_, rfl, _, rfl, _, _, rfl, rfl, _, rfl, ite2 (fun h3 => ?_) (fun h3 => ?_)⟩
          · have h3 := of_decide_eq_true h3
            rw [if_pos h3] at hd
            refine ⟨_, rfl, _, rfl, by show 3 ≤ sizeLine; decide, fun z nz => q z _ (sJ.trans (same_new nz)) (.inl (.inl ?_))⟩
            rw [upd_same, ← hd, show ((1 + i : Nat) : Int) = (i : Int) + 1 by omega]
            rfl
          · have h3 : ¬ (2 * p + ((c : Int) - 48) < m) := fun z => h3 (decide_eq_true z)
            rw [if_neg h3] at hd
            exact ⟨_, rfl, _, rfl, _, _, rfl, rfl, _, rfl, _, rfl, _, _, rfl, rfl, _, _, _, _, rfl, sJ, hd⟩
        · have h2 : ¬ ((m : Int) ≤ 2 * ps) := fun z => h2 (decide_eq_true z)
          rw [if_neg h2] at hd
          exact ⟨_, _, _, _, rfl, sJ, hd⟩
      · rintro σ HI ⟨ps, p, y4, y5, rfl, sH, hd⟩
        have e0 : (bitsOf gs).drop (S gs).cps.size = [] := List.drop_eq_nil_of_le (by rw [bl]; exact Nat.le_refl _)
        rw [e0] at hd
        refine ⟨_, rfl, _, rfl, by show 3 ≤ sizeLine; decide, fun z nz => q z _ (sH.trans (same_new nz)) (.inl (.inl ?_))⟩
        rw [upd_same, ← hd]
        rfl
/-- 2 to the power of a depth, by its figures of base 2 -/
def spPow : Sp := fun vs H Q _ => ∃ (m n : Nat), vs = [.int n, .int m] ∧ 1 ≤ m ∧ m < 10 ^ 60 ∧ n ≤ 400 ∧ ∀ H2, Same H H2 → Q (.int (2 ^ n % m)) H2
theorem ok_power_left {f : Addr} {fd : FuncData} (F : Fun K "power_left" "power_left" s_power_left f fd) (T : Txt mg) : GFn P w K mg base CX0 1 f fd ["depth", "many"] spPow := by
  refine gfun_ok F sc_power_left (fun vs H Q E h => ?_) (fun cdv A outer s H vs Q E hgu hr h => ?_)
  · obtain ⟨m, n, rfl, _⟩ := h
    rfl
  · obtain ⟨m, n, rfl, m1, m2, hn, q⟩ := h
    have nd := sc_power_left.nd
    obtain ⟨bv, bb, bn⟩ := bin_val n (by omega)
    refine ⟨_, (pss_cons (ps_set (i := 2) nd rfl (Or.inl rfl) (pe_op op_mod pe_int (pv 1)))
      (pss_cons (ps_for PassesOwn.never rfl (pi_str (pe_joined1 (pe_fmtB (pv 0)))) (pg_name (i := 3) nd rfl (Or.inl rfl))
        (pss_one (ps_set (i := 2) nd rfl (Or.inl rfl) (pe_op op_mod (pe_op op_mul (pe_op op_mulW (pv 2) (pv 2)) (pe_ifExp (pt_cmpR op_eq (pv 3) pe_str (nomark _)) pe_int pe_int)) (pv 1)))))
      (pss_one (ps_ret (pv 2))))), ?_⟩
    have mp : (0 : Int) < m := by omega
    refine ⟨_, rfl, _, _, rfl, rfl, mp, ?_⟩
    refine ⟨_, rfl, n, rfl, Nat.lt_of_le_of_lt hn (by decide +kernel), S (binS n), rfl, for_it walk_str (fun i σ HI => ∃ (l : Int) (y3 : Option V), σ = [some (.int n), some (.int m), some (.int l), y3] ∧ HI = H ∧ 0 ≤ l ∧ l < m ∧ powF m l ((binS n).drop i) = 2 ^ n % (m : Int)) ⟨_, none, rfl, rfl, mod_lo mp, mod_hi mp, ?_⟩ (fun _ _ _ _ _ => trivial) ?_ ?_⟩
    · have z := powF_ok mp (binS n) 0 bb
      rw [show valF 0 (binS n) = n from bv] at z
      exact z
    · rintro i x σ HI HJ hi ⟨l, y3, rfl, rfl, l0, l1, hd⟩ ⟨rfl, c, hc, rfl⟩
      have hi2 : i < (binS n).length := hi
      have ec : (binS n)[i] = c := by
        have z : (binS n)[i]? = some c := by simpa [S] using hc
        rw [List.getElem?_eq_getElem hi2] at z
        exact Option.some.inj z
      have hb : c = 48 ∨ c = 49 := by
        rw [← ec]
        exact bb _ (List.getElem_mem hi2)
      rw [List.drop_eq_getElem_cons hi2, ec] at hd
      have lb : l.natAbs < 2 ^ 200 := Nat.lt_of_lt_of_le (by omega : l.natAbs < 10 ^ 60) (by decide +kernel)
      refine ⟨_, rfl, _, rfl, _, _, rfl, rfl, wide_mul (a := 200) (b := 200) lb lb (by decide) (by decide) (by decide), ?_⟩
      refine ⟨_, rfl, rfl, _, rfl, ?_⟩
      rcases hb with rfl | rfl
      · have z : decide (V.str ⟨#[48]⟩ = V.str "1") = false := by decide +kernel
        refine ifF z ?_
        refine ⟨_, _, rfl, rfl, .inr ⟨by decide, by decide⟩, _, rfl, _, _, rfl, rfl, mp, _, _, rfl, rfl, mod_lo mp, mod_hi mp, hd⟩
      · have z : decide (V.str ⟨#[49]⟩ = V.str "1") = true := by decide +kernel
        refine ifT z ?_
        refine ⟨_, _, rfl, rfl, .inr ⟨by decide, by decide⟩, _, rfl, _, _, rfl, rfl, mp, _, _, rfl, rfl, mod_lo mp, mod_hi mp, hd⟩
    · rintro σ HI ⟨l, y3, rfl, rfl, l0, l1, hd⟩
      have e0 : (binS n).drop (S (binS n)).cps.size = [] := List.drop_eq_nil_of_le (Nat.le_refl _)
      rw [e0] at hd
      refine ⟨_, rfl, ?_⟩
      rw [show l = 2 ^ n % (m : Int) from hd]
      exact q _ (Same.refl _)
theorem ok_open_at {f f1 : Addr} {fd fd1 : FuncData} (F : Fun K "open_at" "open_at" s_open_at f fd) (F_power_left : Fun K "power_left" "power_left" s_power_left f1 fd1) (m_power_left : mg "power_left" = some (.ref f1)) (b_power_left : Binds K fd1 ["depth", "many"] []) (T : Txt mg) : GFn P w K mg base CX0 2 f fd ["many", "depth"] spOpenAt := by
  have G_power_left : GFn P w K mg base CX0 1 f1 fd1 ["depth", "many"] spPow := ok_power_left F_power_left T
  refine gfun_ok F sc_open_at (fun vs H Q E h => ?_) (fun cdv A outer s H vs Q E hgu hr h => ?_)
  · obtain ⟨m, n, rfl, _⟩ := h
    rfl
  · obtain ⟨m, n, rfl, m1, m2, hn, q⟩ := h
    have nd := sc_open_at.nd
    refine ⟨_, (pss_one (ps_ret (pe_g G_power_left hgu (hr.mono (by decide)) (by rfl) m_power_left F_power_left.kp b_power_left .nil pass0 (pa_cons (pv 1) (pa_cons (pv 0) pa_nil))))), ?_⟩
    exact ⟨_, rfl, _, rfl, m, n, rfl, m1, m2, hn, q⟩
theorem ok_leaves_at {f f1 : Addr} {fd fd1 : FuncData} (F : Fun K "leaves_at" "leaves_at" s_leaves_at f fd) (F_power_left : Fun K "power_left" "power_left" s_power_left f1 fd1) (m_power_left : mg "power_left" = some (.ref f1)) (b_power_left : Binds K fd1 ["depth", "many"] []) (T : Txt mg) : GFn P w K mg base CX0 2 f fd ["many", "depth"] spLeavesAt := by
  have G_power_left : GFn P w K mg base CX0 1 f1 fd1 ["depth", "many"] spPow := ok_power_left F_power_left T
  refine gfun_ok F sc_leaves_at (fun vs H Q E h => ?_) (fun cdv A outer s H vs Q E hgu hr h => ?_)
  · obtain ⟨m, n, rfl, _⟩ := h
    rfl
  · obtain ⟨m, n, rfl, m1, m2, hn, q⟩ := h
    have nd := sc_leaves_at.nd
    refine ⟨_, (pss_cons (ps_if (pt_cmpR op_eq (pv 1) pe_int (nomark _)) (pss_one (ps_ret (pe_ifExp (pt_cmpR op_eq (pv 0) pe_int (nomark _)) pe_int pe_int))) pss_nil)
      (pss_one (ps_ret (pe_ifExp (pt_cmpR op_ge (pe_op op_mul pe_int (pe_g G_power_left hgu (hr.mono (by decide)) (by rfl) m_power_left F_power_left.kp b_power_left .nil pass0 (pa_cons (pe_op op_sub (pv 1) pe_int) (pa_cons (pv 0) pa_nil)))) (pv 0) (nomark _)) (pv 0) pe_int)))), ?_⟩
    have mp : (0 : Int) < m := by omega
    refine ⟨_, rfl, rfl, _, rfl, ite2 (fun h1 => ?_) (fun h1 => ?_)⟩
    · rw [dec_int, beq_iff_eq] at h1
      have h1 : n = 0 := by omega
      subst h1
      refine ⟨_, rfl, rfl, _, rfl, ite2 (fun h2 => ?_) (fun h2 => ?_)⟩
      · rw [dec_int, beq_iff_eq] at h2
        have z := q H (Same.refl _)
        rw [h2] at z
        exact z
      · rw [dec_int, beq_iff_eq] at h2
        have z := q H (Same.refl _)
        have e : leavesOf m (2 ^ 0) = 0 := by
          unfold leavesOf
          rw [show (2 : Int) ^ 0 = 1 from rfl, Int.ediv_eq_zero_of_lt (by omega) (by omega)]
          rfl
        rw [e] at z
        exact z
    · rw [dec_int, beq_iff_eq] at h1
      obtain ⟨k, rfl⟩ : ∃ k, n = k + 1 := ⟨n - 1, by omega⟩
      refine ⟨_, rfl, _, _, rfl, rfl, _, rfl, m, k, ?_, m1, m2, by omega, fun H2 s2 => ?_⟩
      · show [V.int (((k + 1 : Nat) : Int) - 1), V.int m] = _
        rw [show ((k + 1 : Nat) : Int) - 1 = k by omega]
      · have z := q H2 s2
        have l2 := leaves_double (pw := 2 ^ k) mp
        have h0 := Int.emod_nonneg (2 * 2 ^ k) (show (m : Int) ≠ 0 by omega)
        have h1 := Int.emod_lt_of_pos (2 * 2 ^ k) mp
        rw [Int.pow_succ, Int.mul_comm _ 2] at z
        have lv2 : leavesOf m (2 * 2 ^ k) = m ∨ leavesOf m (2 * 2 ^ k) = 0 := by
          unfold leavesOf
          split
          · exact .inl rfl
          · exact .inr rfl
        generalize (2 : Int) ^ k % m = u at l2 ⊢
        generalize leavesOf m (2 * 2 ^ k) = y at l2 lv2 z
        refine ⟨_, _, rfl, rfl, .inl ⟨by decide, by decide⟩, _, rfl, _, _, rfl, rfl, _, rfl, ite2 (fun h2 => ?_) (fun h2 => ?_)⟩
        · have h2 := of_decide_eq_true h2
          have e : y = m := by
            rcases lv2 with e | e <;> omega
          rw [e] at z
          exact ⟨_, rfl, z⟩
        · have h2 : ¬ ((m : Int) ≤ 2 * u) := fun z => h2 (decide_eq_true z)
          have e : y = 0 := by
            rcases lv2 with e | e <;> omega
          rw [e] at z
          exact z
end
end SG

namespace SG
open PySem PySem.Spec PyProof.Rows L2
theorem kwOne_args {α : Type} {us ws : List α} (h : (kwOne us ws).length = 1) : ∃ x, us = [] ∧ ws = [x] := by
  match us, ws, h with
  | [], [x], _ => exact ⟨x, rfl, rfl⟩
  | [], [], h => exact absurd h (by simp [kwOne])
  | [], _ :: _ :: _, h => exact absurd h (by simp [kwOne])
  | _ :: _, _, h => exact absurd h (by simp [kwOne])
theorem kwTurn_args {α : Type} {us ws : List α} (h : (kwTurn us ws).length = 2) : ∃ x y, us = [] ∧ ws = [x, y] := by
  match us, ws, h with
  | [], [x, y], _ => exact ⟨x, y, rfl, rfl⟩
  | [], [], h => exact absurd h (by simp [kwTurn])
  | [], [_], h => exact absurd h (by simp [kwTurn])
  | [], _ :: _ :: _ :: _, h => exact absurd h (by simp [kwTurn])
  | _ :: _, _, h => exact absurd h (by simp [kwTurn])
theorem all_mk {l : PySem.W.OpenLaw} {w : World} {K : PySem.W.Frag} {h : Heap} {mg : Str → Option Value} {fa f_draw f_power_left f_open_at f_leaves_at f__law_deck f__law_draw f__law_pick f__law_tosses f__law_twos f__law_many f__law_due f__law_right f_law : Addr} (X : K.In h) (G : h.Ns mainGlobals mg) (hfa : mg "law" = some (.ref fa))
    {od_draw an_draw od_power_left an_power_left od_open_at an_open_at od_leaves_at an_leaves_at od__law_deck an__law_deck od__law_draw an__law_draw od__law_pick an__law_pick od__law_tosses an__law_tosses od__law_twos an__law_twos od__law_many an__law_many od__law_due an__law_due od__law_right an__law_right od_law an_law : Option Addr} {sl_draw sl_power_left sl_open_at sl_leaves_at sl__law_deck sl__law_draw sl__law_pick sl__law_tosses sl__law_twos sl__law_many sl__law_due sl__law_right sl_law : Array (Option Value)} {oc_draw kV_draw dc_draw pm_draw cd_draw ct_draw oc_power_left kV_power_left dc_power_left pm_power_left cd_power_left ct_power_left oc_open_at kV_open_at dc_open_at pm_open_at cd_open_at ct_open_at oc_leaves_at kV_leaves_at dc_leaves_at pm_leaves_at cd_leaves_at ct_leaves_at oc__law_deck kV__law_deck dc__law_deck pm__law_deck cd__law_deck ct__law_deck oc__law_draw kV__law_draw dc__law_draw pm__law_draw cd__law_draw ct__law_draw oc__law_pick kV__law_pick dc__law_pick pm__law_pick cd__law_pick ct__law_pick oc__law_tosses kV__law_tosses dc__law_tosses pm__law_tosses cd__law_tosses ct__law_tosses oc__law_twos kV__law_twos dc__law_twos pm__law_twos cd__law_twos ct__law_twos oc__law_many kV__law_many dc__law_many pm__law_many cd__law_many ct__law_many oc__law_due kV__law_due dc__law_due pm__law_due cd__law_due ct__law_due oc__law_right kV__law_right dc__law_right pm__law_right cd__law_right ct__law_right oc_law kV_law dc_law pm_law cd_law ct_law : Value}
    (a_draw : PySem.W.nsIn K mainGlobals "draw" = some (some (.ref f_draw))) (l_draw : K.lookup f_draw = some ⟨oc_draw, od_draw, .func (PySem.W.fnOf "draw" "draw" (defArgs s_draw) (defBody s_draw) (defScope s_draw) .none kV_draw dc_draw pm_draw an_draw cd_draw ct_draw), sl_draw⟩) (c_draw : PySem.W.codeIn K cd_draw "draw" = true) (k_draw : PySem.W.keepIn K (.ref f_draw) = true)
    (a_power_left : PySem.W.nsIn K mainGlobals "power_left" = some (some (.ref f_power_left))) (l_power_left : K.lookup f_power_left = some ⟨oc_power_left, od_power_left, .func (PySem.W.fnOf "power_left" "power_left" (defArgs s_power_left) (defBody s_power_left) (defScope s_power_left) .none kV_power_left dc_power_left pm_power_left an_power_left cd_power_left ct_power_left), sl_power_left⟩) (c_power_left : PySem.W.codeIn K cd_power_left "power_left" = true) (k_power_left : PySem.W.keepIn K (.ref f_power_left) = true)
    (a_open_at : PySem.W.nsIn K mainGlobals "open_at" = some (some (.ref f_open_at))) (l_open_at : K.lookup f_open_at = some ⟨oc_open_at, od_open_at, .func (PySem.W.fnOf "open_at" "open_at" (defArgs s_open_at) (defBody s_open_at) (defScope s_open_at) .none kV_open_at dc_open_at pm_open_at an_open_at cd_open_at ct_open_at), sl_open_at⟩) (c_open_at : PySem.W.codeIn K cd_open_at "open_at" = true) (k_open_at : PySem.W.keepIn K (.ref f_open_at) = true)
    (a_leaves_at : PySem.W.nsIn K mainGlobals "leaves_at" = some (some (.ref f_leaves_at))) (l_leaves_at : K.lookup f_leaves_at = some ⟨oc_leaves_at, od_leaves_at, .func (PySem.W.fnOf "leaves_at" "leaves_at" (defArgs s_leaves_at) (defBody s_leaves_at) (defScope s_leaves_at) .none kV_leaves_at dc_leaves_at pm_leaves_at an_leaves_at cd_leaves_at ct_leaves_at), sl_leaves_at⟩) (c_leaves_at : PySem.W.codeIn K cd_leaves_at "leaves_at" = true) (k_leaves_at : PySem.W.keepIn K (.ref f_leaves_at) = true)
    (a__law_deck : PySem.W.nsIn K mainGlobals "_law_deck" = some (some (.ref f__law_deck))) (l__law_deck : K.lookup f__law_deck = some ⟨oc__law_deck, od__law_deck, .func (PySem.W.fnOf "_law_deck" "_law_deck" (defArgs s__law_deck) (defBody s__law_deck) (defScope s__law_deck) .none kV__law_deck dc__law_deck pm__law_deck an__law_deck cd__law_deck ct__law_deck), sl__law_deck⟩) (c__law_deck : PySem.W.codeIn K cd__law_deck "_law_deck" = true) (k__law_deck : PySem.W.keepIn K (.ref f__law_deck) = true)
    (a__law_draw : PySem.W.nsIn K mainGlobals "_law_draw" = some (some (.ref f__law_draw))) (l__law_draw : K.lookup f__law_draw = some ⟨oc__law_draw, od__law_draw, .func (PySem.W.fnOf "_law_draw" "_law_draw" (defArgs s__law_draw) (defBody s__law_draw) (defScope s__law_draw) .none kV__law_draw dc__law_draw pm__law_draw an__law_draw cd__law_draw ct__law_draw), sl__law_draw⟩) (c__law_draw : PySem.W.codeIn K cd__law_draw "_law_draw" = true) (k__law_draw : PySem.W.keepIn K (.ref f__law_draw) = true)
    (a__law_pick : PySem.W.nsIn K mainGlobals "_law_pick" = some (some (.ref f__law_pick))) (l__law_pick : K.lookup f__law_pick = some ⟨oc__law_pick, od__law_pick, .func (PySem.W.fnOf "_law_pick" "_law_pick" (defArgs s__law_pick) (defBody s__law_pick) (defScope s__law_pick) .none kV__law_pick dc__law_pick pm__law_pick an__law_pick cd__law_pick ct__law_pick), sl__law_pick⟩) (c__law_pick : PySem.W.codeIn K cd__law_pick "_law_pick" = true) (k__law_pick : PySem.W.keepIn K (.ref f__law_pick) = true)
    (a__law_tosses : PySem.W.nsIn K mainGlobals "_law_tosses" = some (some (.ref f__law_tosses))) (l__law_tosses : K.lookup f__law_tosses = some ⟨oc__law_tosses, od__law_tosses, .func (PySem.W.fnOf "_law_tosses" "_law_tosses" (defArgs s__law_tosses) (defBody s__law_tosses) (defScope s__law_tosses) .none kV__law_tosses dc__law_tosses pm__law_tosses an__law_tosses cd__law_tosses ct__law_tosses), sl__law_tosses⟩) (c__law_tosses : PySem.W.codeIn K cd__law_tosses "_law_tosses" = true) (k__law_tosses : PySem.W.keepIn K (.ref f__law_tosses) = true)
    (a__law_twos : PySem.W.nsIn K mainGlobals "_law_twos" = some (some (.ref f__law_twos))) (l__law_twos : K.lookup f__law_twos = some ⟨oc__law_twos, od__law_twos, .func (PySem.W.fnOf "_law_twos" "_law_twos" (defArgs s__law_twos) (defBody s__law_twos) (defScope s__law_twos) .none kV__law_twos dc__law_twos pm__law_twos an__law_twos cd__law_twos ct__law_twos), sl__law_twos⟩) (c__law_twos : PySem.W.codeIn K cd__law_twos "_law_twos" = true) (k__law_twos : PySem.W.keepIn K (.ref f__law_twos) = true)
    (a__law_many : PySem.W.nsIn K mainGlobals "_law_many" = some (some (.ref f__law_many))) (l__law_many : K.lookup f__law_many = some ⟨oc__law_many, od__law_many, .func (PySem.W.fnOf "_law_many" "_law_many" (defArgs s__law_many) (defBody s__law_many) (defScope s__law_many) .none kV__law_many dc__law_many pm__law_many an__law_many cd__law_many ct__law_many), sl__law_many⟩) (c__law_many : PySem.W.codeIn K cd__law_many "_law_many" = true) (k__law_many : PySem.W.keepIn K (.ref f__law_many) = true)
    (a__law_due : PySem.W.nsIn K mainGlobals "_law_due" = some (some (.ref f__law_due))) (l__law_due : K.lookup f__law_due = some ⟨oc__law_due, od__law_due, .func (PySem.W.fnOf "_law_due" "_law_due" (defArgs s__law_due) (defBody s__law_due) (defScope s__law_due) .none kV__law_due dc__law_due pm__law_due an__law_due cd__law_due ct__law_due), sl__law_due⟩) (c__law_due : PySem.W.codeIn K cd__law_due "_law_due" = true) (k__law_due : PySem.W.keepIn K (.ref f__law_due) = true)
    (a__law_right : PySem.W.nsIn K mainGlobals "_law_right" = some (some (.ref f__law_right))) (l__law_right : K.lookup f__law_right = some ⟨oc__law_right, od__law_right, .func (PySem.W.fnOf "_law_right" "_law_right" (defArgs s__law_right) (defBody s__law_right) (defScope s__law_right) .none kV__law_right dc__law_right pm__law_right an__law_right cd__law_right ct__law_right), sl__law_right⟩) (c__law_right : PySem.W.codeIn K cd__law_right "_law_right" = true) (k__law_right : PySem.W.keepIn K (.ref f__law_right) = true)
    (a_law : PySem.W.nsIn K mainGlobals "law" = some (some (.ref f_law))) (l_law : K.lookup f_law = some ⟨oc_law, od_law, .func (PySem.W.fnOf "law" "law" (defArgs s_law) (defBody s_law) (defScope s_law) .none kV_law dc_law pm_law an_law cd_law ct_law), sl_law⟩) (c_law : PySem.W.codeIn K cd_law "law" = true) (k_law : PySem.W.keepIn K (.ref f_law) = true)
    (z_enumerate : PySem.W.nsIn K mainGlobals "enumerate" = some none) (z_int : PySem.W.nsIn K mainGlobals "int" = some none) (z_len : PySem.W.nsIn K mainGlobals "len" = some none) (z_list : PySem.W.nsIn K mainGlobals "list" = some none) (z_range : PySem.W.nsIn K mainGlobals "range" = some none) (z_repr : PySem.W.nsIn K mainGlobals "repr" = some none) :
    ∃ fd : FuncData, (∀ (s : Shared) (v : Value), BindsTo s fd ⟨[v], []⟩ [("_law_script", v)]) ∧ ∀ base : Heap, K.In base → base.Ns mainGlobals mg → base.NoDigits → GFn l.prog w K mg base CX0 6 fa fd ["_law_script"] (spLaw K) := by
  have e := hfa.symm.trans (PySem.W.mg_of X G a_law)
  cases e
  have F_draw := fun_mk (st := s_draw) l_draw c_draw k_draw
  have b_draw := F_draw.binds (ps := ["many", "tosses"]) fun _ _ _ _ _ _ us hl => match us, hl with | [_, _], _ => rfl
  have m_draw := PySem.W.mg_of X G a_draw
  have F_power_left := fun_mk (st := s_power_left) l_power_left c_power_left k_power_left
  have b_power_left := F_power_left.binds (ps := ["depth", "many"]) fun _ _ _ _ _ _ us hl => match us, hl with | [_, _], _ => rfl
  have m_power_left := PySem.W.mg_of X G a_power_left
  have F_open_at := fun_mk (st := s_open_at) l_open_at c_open_at k_open_at
  have b_open_at := F_open_at.binds (ps := ["many", "depth"]) fun _ _ _ _ _ _ us hl => match us, hl with | [_, _], _ => rfl
  have m_open_at := PySem.W.mg_of X G a_open_at
  have F_leaves_at := fun_mk (st := s_leaves_at) l_leaves_at c_leaves_at k_leaves_at
  have b_leaves_at := F_leaves_at.binds (ps := ["many", "depth"]) fun _ _ _ _ _ _ us hl => match us, hl with | [_, _], _ => rfl
  have m_leaves_at := PySem.W.mg_of X G a_leaves_at
  have F__law_deck := fun_mk (st := s__law_deck) l__law_deck c__law_deck k__law_deck
  have b__law_deck := F__law_deck.binds (ps := ["_law_script"]) fun _ _ _ _ _ _ us hl => match us, hl with | [_], _ => rfl
  have m__law_deck := PySem.W.mg_of X G a__law_deck
  have F__law_draw := fun_mk (st := s__law_draw) l__law_draw c__law_draw k__law_draw
  have b__law_draw := F__law_draw.binds (ps := ["_law_deck_here", "_law_much"]) fun _ _ _ _ _ _ us hl => match us, hl with | [_, _], _ => rfl
  have m__law_draw := PySem.W.mg_of X G a__law_draw
  have F__law_pick := fun_mk (st := s__law_pick) l__law_pick c__law_pick k__law_pick
  have b__law_pick := F__law_pick.binds (ps := ["_law_deck_here", "_law_some"]) fun _ _ _ _ _ _ us hl => match us, hl with | [_, _], _ => rfl
  have m__law_pick := PySem.W.mg_of X G a__law_pick
  have F__law_tosses := fun_mk (st := s__law_tosses) l__law_tosses c__law_tosses k__law_tosses
  have b__law_tosses := F__law_tosses.binds (ps := ["_law_deck_here", "_law_limit"]) fun _ _ _ _ _ _ us hl => match us, hl with | [_, _], _ => rfl
  have m__law_tosses := PySem.W.mg_of X G a__law_tosses
  have F__law_twos := fun_mk (st := s__law_twos) l__law_twos c__law_twos k__law_twos
  have b__law_twos := F__law_twos.binds (ps := ["_law_much"]) fun _ _ _ _ _ _ us hl => match us, hl with | [_], _ => rfl
  have m__law_twos := PySem.W.mg_of X G a__law_twos
  have F__law_many := fun_mk (st := s__law_many) l__law_many c__law_many k__law_many
  have b__law_many := F__law_many.binds (ps := ["_law_deck_here"]) fun _ _ _ _ _ _ us hl => match us, hl with | [_], _ => rfl
  have m__law_many := PySem.W.mg_of X G a__law_many
  have F__law_due := fun_mk (st := s__law_due) l__law_due c__law_due k__law_due
  have b__law_due := F__law_due.binds (ps := ["_law_much", "_law_flips"]) fun _ _ _ _ _ _ us hl => match us, hl with | [_, _], _ => rfl
  have m__law_due := PySem.W.mg_of X G a__law_due
  have F__law_right := fun_mk (st := s__law_right) l__law_right c__law_right k__law_right
  have b__law_right := F__law_right.binds (ps := ["_law_deck_here", "_law_much", "_law_flips"]) fun _ _ _ _ _ _ us hl => match us, hl with | [_, _, _], _ => rfl
  have m__law_right := PySem.W.mg_of X G a__law_right
  have F_law := fun_mk (st := s_law) l_law c_law k_law
  have kb_draw_tosses_many := kb_of (ps := ["many", "tosses"]) (ks := ["tosses", "many"]) (g := kwTurn) (gV := kwTurn) F_draw (fun kV doc pm an cdv ct us ws hl => by
    obtain ⟨x, y, rfl, rfl⟩ := kwTurn_args hl
    rfl) kwTurn_rel
  have kb_open_at_depth_many := kb_of (ps := ["many", "depth"]) (ks := ["depth", "many"]) (g := kwTurn) (gV := kwTurn) F_open_at (fun kV doc pm an cdv ct us ws hl => by
    obtain ⟨x, y, rfl, rfl⟩ := kwTurn_args hl
    rfl) kwTurn_rel
  have kb_leaves_at_depth_many := kb_of (ps := ["many", "depth"]) (ks := ["depth", "many"]) (g := kwTurn) (gV := kwTurn) F_leaves_at (fun kV doc pm an cdv ct us ws hl => by
    obtain ⟨x, y, rfl, rfl⟩ := kwTurn_args hl
    rfl) kwTurn_rel
  have T : Txt mg := ⟨PySem.W.mg_none_of X G z_enumerate, PySem.W.mg_none_of X G z_int, PySem.W.mg_none_of X G z_len, PySem.W.mg_none_of X G z_list, PySem.W.mg_none_of X G z_range, PySem.W.mg_none_of X G z_repr⟩
  refine ⟨PySem.W.fnOf "law" "law" (defArgs s_law) (defBody s_law) (defScope s_law) .none kV_law dc_law pm_law an_law cd_law ct_law, fun s v => .of_eq rfl, fun base _ _ hdg => ?_⟩
  exact ok_law hdg F_law F__law_draw m__law_draw b__law_draw F__law_pick m__law_pick b__law_pick F__law_deck m__law_deck b__law_deck F__law_tosses m__law_tosses b__law_tosses F__law_twos m__law_twos b__law_twos F__law_many m__law_many b__law_many F__law_due m__law_due b__law_due F__law_right m__law_right b__law_right ((ok_drawP F_draw T).mono (by decide)) F_draw m_draw b_draw kb_draw_tosses_many ((ok_open_at F_open_at F_power_left m_power_left b_power_left T).mono (by decide)) F_open_at m_open_at b_open_at kb_open_at_depth_many ((ok_leaves_at F_leaves_at F_power_left m_power_left b_power_left T).mono (by decide)) F_leaves_at m_leaves_at b_leaves_at kb_leaves_at_depth_many T
end SG
open PySem PySem.W PyProof.Rows
set_option maxHeartbeats 0 in
theorem PySem.Challenge.cw_serialhouse_k39_draws_among_holds : PySem.Challenge.rw_serialhouse_k39_draws_among.Holds := by
  w_on; o_law; k_head; (case hw => w_witness2)
  k_fill
  refine SG.walk_g (l := PySem.Challenge.rw_serialhouse_k39_draws_among) (n := 63) (k := 6) (x := "_law_script") (sp := SG.spLaw) rfl (by decide) rfl ⟨rfl, by decide, by decide⟩ (fun w h Y => PySem.W.kIn_of Y) ?F (fun _ _ a ns hl _ hS => ⟨a, ns, rfl, hS, hl, fun _ => rfl⟩)
  case F =>
    intro w mg fa h KX G hmg
    refine' SG.all_mk KX G hmg ?a_draw ?l_draw ?c_draw ?k_draw ?a_power_left ?l_power_left ?c_power_left ?k_power_left ?a_open_at ?l_open_at ?c_open_at ?k_open_at ?a_leaves_at ?l_leaves_at ?c_leaves_at ?k_leaves_at ?a__law_deck ?l__law_deck ?c__law_deck ?k__law_deck ?a__law_draw ?l__law_draw ?c__law_draw ?k__law_draw ?a__law_pick ?l__law_pick ?c__law_pick ?k__law_pick ?a__law_tosses ?l__law_tosses ?c__law_tosses ?k__law_tosses ?a__law_twos ?l__law_twos ?c__law_twos ?k__law_twos ?a__law_many ?l__law_many ?c__law_many ?k__law_many ?a__law_due ?l__law_due ?c__law_due ?k__law_due ?a__law_right ?l__law_right ?c__law_right ?k__law_right ?a_law ?l_law ?c_law ?k_law ?z_enumerate ?z_int ?z_len ?z_list ?z_range ?z_repr
    (case a_draw => k_is); (case l_draw => k_is); (case c_draw => k_is); (case k_draw => k_is); (case a_power_left => k_is); (case l_power_left => k_is); (case c_power_left => k_is); (case k_power_left => k_is); (case a_open_at => k_is); (case l_open_at => k_is); (case c_open_at => k_is); (case k_open_at => k_is); (case a_leaves_at => k_is); (case l_leaves_at => k_is); (case c_leaves_at => k_is); (case k_leaves_at => k_is); (case a__law_deck => k_is); (case l__law_deck => k_is); (case c__law_deck => k_is); (case k__law_deck => k_is); (case a__law_draw => k_is); (case l__law_draw => k_is); (case c__law_draw => k_is); (case k__law_draw => k_is); (case a__law_pick => k_is); (case l__law_pick => k_is); (case c__law_pick => k_is); (case k__law_pick => k_is); (case a__law_tosses => k_is); (case l__law_tosses => k_is); (case c__law_tosses => k_is); (case k__law_tosses => k_is); (case a__law_twos => k_is); (case l__law_twos => k_is); (case c__law_twos => k_is); (case k__law_twos => k_is); (case a__law_many => k_is); (case l__law_many => k_is); (case c__law_many => k_is); (case k__law_many => k_is); (case a__law_due => k_is); (case l__law_due => k_is); (case c__law_due => k_is); (case k__law_due => k_is); (case a__law_right => k_is); (case l__law_right => k_is); (case c__law_right => k_is); (case k__law_right => k_is); (case a_law => k_is); (case l_law => k_is); (case c_law => k_is); (case k_law => k_is); (case z_enumerate => k_is); (case z_int => k_is); (case z_len => k_is); (case z_list => k_is); (case z_range => k_is); (case z_repr => k_is)
