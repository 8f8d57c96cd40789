import PyProof.Rows.All
import Wide.All
import OpenK.AllK
import Wide.FinOn
import HandS.ForMost
import HandS.IsInst
import HandS.Style
import HandS.Wide
import PyProof.Rows.Digits
import KE.GoesEnum
import HandS.Zip
import HandS.TupAny
import HandS.Codes
import PyProof.ReprBulk
import HandS.Text
import KE.GoesEnumKw
import PyProof.FString3
import PyProof.Rows.StrIntSpec
import HandS.FStr
import HandS.Walk
import HandS.Gcd
import HandS.StrMore
import HandS.WideBits
import PySem.Challenge.RW_serialhouse_k38_fractions
import KE.KIntText
set_option Elab.async false
set_option linter.all false
set_option maxRecDepth 100000
/-! Contracts of defs that know the guards: where no text of an object is being told, repr can be asked. -/
namespace SG
open PySem PySem.Spec PyProof.Rows L2

/-- a def's promise, kept wherever no guard stands -/
structure GFn (pr : Program) (wo : World) (K : PySem.W.Frag) (mg : Str → Option Value) (ba : Heap) (cx : CXT) (k : Nat) (f : Addr) (fd : FuncData) (ps : List Str) (sp : Sp) : Prop where
  len : ∀ xs Hx R Ex, sp xs Hx R Ex → xs.length = ps.length
  go : ∀ (B : Around) (fr : List Env) (st : Shared) (Hx : Hp) (ar : Args) (vals : List Value) (xs : List V) (R : VK) (Ex : XK),
    B.guards = some [] → Room k B → Env0 pr wo K mg ba B fr st Hx → BindsTo st fd ar (ps.zip vals) → Vals xs vals → sp xs Hx R Ex →
    codeAny (model pr wo) B (.call (.ref f) ar) (CR cx fr pr wo Hx st R Ex) st

variable {pr : Program} {wo : World} {K : PySem.W.Frag} {mg : Str → Option Value} {ba : Heap} {cx : CXT}

theorem GFn.mono {j k : Nat} {f : Addr} {fd : FuncData} {ps : List Str} {sp : Sp} (F : GFn pr wo K mg ba cx j f fd ps sp) (h : j ≤ k) :
    GFn pr wo K mg ba cx k f fd ps sp :=
  ⟨F.len, fun B fr st Hx ar vals xs R Ex g hr => F.go B fr st Hx ar vals xs R Ex g (hr.mono h)⟩
theorem GFn.imp {k : Nat} {f : Addr} {fd : FuncData} {ps : List Str} {sp sq : Sp} (F : GFn pr wo K mg ba cx k f fd ps sp)
    (h : ∀ xs Hx R Ex, sq xs Hx R Ex → sp xs Hx R Ex) : GFn pr wo K mg ba cx k f fd ps sq :=
  ⟨fun xs Hx R Ex q => F.len xs Hx R Ex (h _ _ _ _ q), fun B fr st Hx ar vals xs R Ex g hr e b v q => F.go B fr st Hx ar vals xs R Ex g hr e b v (h _ _ _ _ q)⟩
/-- what is kept anywhere is kept here -/
theorem GFn.of {k : Nat} {f : Addr} {fd : FuncData} {ps : List Str} {sp : Sp} (F : FnOk pr wo K mg ba cx k f fd ps sp) : GFn pr wo K mg ba cx k f fd ps sp :=
  ⟨F.len, fun B fr st Hx ar vals xs R Ex _ hr => F.run B fr st Hx ar vals xs R Ex hr⟩

/-- a def by its body -/
theorem gfn_of {k : Nat} {f : Addr} {nm qn : Str} {pa : Arguments} {bd : List Stmt} {sc : Scope} {dV kV dc pm cdv ct oc : Value} {an od : Option Addr} {osl : Array (Option Value)} {N ps : List Str} {sp : Sp}
    (lk : K.lookup f = some ⟨oc, od, .func (PySem.W.fnOf nm qn pa bd sc dV kV dc pm an cdv ct), osl⟩) (hcd : PySem.W.codeIn K cdv qn = true) (S : FnScope N ps sc)
    (len : ∀ xs Hx R Ex, sp xs Hx R Ex → xs.length = ps.length)
    (hb : ∀ (B : Around) (fr : List Env) (st : Shared) (Hx : Hp) (xs : List V) (R : VK) (Ex : XK), B.guards = some [] → Room k (B.deeper (envOfC qn sc st.heap.objs.size f cdv)) → sp xs Hx R Ex →
      ∃ t, PSs (cxOf cx pr wo K mg ba N qn sc f cdv B fr st Hx Ex) bd t ∧ t { nx := fun _ H2 => R .non H2, rt := R } (start N xs) Hx) :
    GFn pr wo K mg ba cx (k + 1) f (PySem.W.fnOf nm qn pa bd sc dV kV dc pm an cdv ct) ps sp := by
  refine ⟨len, fun B fr st Hx ar vals xs R Ex g hr e0 hbd rv hsp => ?_⟩
  have KX : K.In st.heap := e0.mod.kin.keeps fun b o e => (e0.bs b o e).1
  have lim : st.heap.NoLimit := e0.mod.nolimit.keeps fun b o e => (e0.bs b o e).1
  have hkn : ∀ y ∈ ps.zip vals, sc.names.lookup y.1 = some .local ∨ (sc.names.lookup y.1 = some .cell ∧ ((cellsFrom (st.heap.objs.size + 1) sc.names []).lookup y.1).isSome = true) := by
    rintro ⟨n, v⟩ hy
    rcases S.par n (List.of_mem_zip hy).1 with q | q
    · exact .inl q
    · exact .inr ⟨q, PySem.W.cellsFrom_some _ _ _ (.inl q)⟩
  refine codeAny_call_function hr.depth (KX _ _ lk) rfl S.co S.gen rfl (PySem.W.codeRec_of KX hcd) (hbd _ _ _ _ ?_)
  refine wpAny_newFunctionEnv_cells S.kind hkn fun env he s1 x => ?_
  subst he
  refine ⟨lim.keeps x.toInCall.keep, codeAny_func ?_⟩
  obtain ⟨t, ht, hq⟩ := hb B fr st Hx xs R Ex g (hr.deeper _) hsp
  have I : Inv (cxOf cx pr wo K mg ba N qn sc f cdv B fr st Hx Ex) [] (start N xs) Hx s1 := inv_start S hr.hd e0 (len _ _ _ _ hsp) rv x
  refine wpAny_mono (ht.run [] s1 (start N xs) Hx _ I hq) (fun fl s2 hs => ?_) fun e s2 hs => hs
  have fin : ∀ {τ : L2.St} {H2 : Hp} {v : V} {u : Value}, Inv (cxOf cx pr wo K mg ba N qn sc f cdv B fr st Hx Ex) [] τ H2 s2 → RelV v u → R v H2 → CE fr pr wo Hx st R u s2 :=
    fun {τ H2 v u} J r1 q => ⟨v, H2, J.os, J.bare, J.base, J.hok, r1, q⟩
  cases fl with
  | ret u => obtain ⟨v, τ, H2, J, r1, q⟩ := hs; exact fin J r1 q
  | next => obtain ⟨τ, H2, J, q⟩ := hs; exact fin (v := V.non) (u := Value.none) J rfl q
  | brk => obtain ⟨_, _, _, q⟩ := hs; exact q.elim
  | cont => obtain ⟨_, _, _, q⟩ := hs; exact q.elim

theorem gfun_ok {x qn : Str} {s0 : Stmt} {f : Addr} {fd : FuncData} {N ps : List Str} {k : Nat} {sp : Sp} (F : Fun K x qn s0 f fd) (S : FnScope N ps (defScope s0)) (len : ∀ xs Hx R Ex, sp xs Hx R Ex → xs.length = ps.length)
    (hb : ∀ (cdv : Value) (B : Around) (fr : List Env) (st : Shared) (Hx : Hp) (xs : List V) (R : VK) (Ex : XK), (B.deeper (envOfC qn (defScope s0) st.heap.objs.size f cdv)).guards = some [] →
      Room k (B.deeper (envOfC qn (defScope s0) st.heap.objs.size f cdv)) → sp xs Hx R Ex →
      ∃ t, PSs (cxOf CX0 pr wo K mg ba N qn (defScope s0) f cdv B fr st Hx Ex).nox (defBody s0) t ∧ t { nx := fun _ H2 => R .non H2, rt := R } (start N xs) Hx) :
    GFn pr wo K mg ba CX0 (k + 1) f fd ps sp := by
  obtain ⟨oc, od, kV, dc, pm, an, cdv, ct, osl, rfl, lk, hcd⟩ := F.ex
  refine gfn_of lk hcd S len fun B fr st Hx xs R Ex g hr hsp => ?_
  obtain ⟨t, h, q⟩ := hb cdv B fr st Hx xs R Ex g hr hsp
  exact ⟨t, h.nox, q⟩

section
variable {X : Cx} {k : Nat} {f : Addr} {fd : FuncData} {ps ks : List Str} {sp : Sp} {dvs : List V} {ds : List Value} {Ex : XK} {x : Str} {p pos : Pos} {e : Expr} {es : List Expr} {kws : List Keyword} {t tk : TA}

theorem end_of {pins : List (Addr × Obj)} {σ : L2.St} {Hx : Hp} {st s2 : Shared} {R : VK} {r : Result} (hx : Passes cx X Ex) (I : Inv X pins σ Hx st) (q : CR cx X.stack X.prog X.w Hx st R Ex r s2) :
    (match r with | .ok (.ret u) => EP X pins σ R u s2 | .ok _ => False | .error e => X.xe e s2) := by
  cases r with
  | error e => exact hx pins σ Hx st e s2 I q
  | ok fl => cases fl <;> first | exact I.after q | exact False.elim q

theorem run_g {pins : List (Addr × Obj)} {σ : L2.St} {Hx : Hp} {st : Shared} {R : VK} {ar : Args} {vals : List Value} {xs : List V} (F : GFn X.prog X.w X.K X.mg X.base cx k f fd ps sp) (hg : X.A.guards = some []) (hr : Room k X.A) (hx : Passes cx X Ex)
    (I : Inv X pins σ Hx st) (hb : BindsTo st fd ar (ps.zip vals)) (r : Vals xs vals) (h : sp xs Hx R Ex) {us : List Value} {kw : List (Str × Value)} (ea : ar = ⟨us, kw⟩) : wpAny (model X.prog X.w) X.A (call (.ref f) us kw) (EP X pins σ R) X.xe st := by
  subst ea
  refine wpAny_call (codeAny_mono (F.go X.A X.stack st Hx _ vals xs R Ex hg hr I.env0 hb r h) fun r s2 hq => ?_)
  have z := end_of hx I hq
  cases r with
  | error e => exact z
  | ok fl => cases fl <;> exact z

/-- f(a, ..) -/
theorem pe_g (F : GFn X.prog X.w X.K X.mg X.base cx k f fd ps sp) (hgu : X.A.guards = some []) (hr : Room k X.A) (hg : Gl X x) (hm : X.mg x = some (.ref f)) (hk : PySem.W.keepIn X.K (.ref f) = true) (hb : Binds X.K fd ps ds) (hd : Vals dvs ds) (hx : Passes cx X Ex)
    (ha : PA X (e :: es) t) (hdb : (x == ("__debug__" : Str)) = false := by decide) (he : starEach (e :: es) X.env = (false, eval e X.env) :: starEach es X.env := by rfl) (hpl : (backTo pos (starEach es X.env)).any (·.1) = false := by rfl) :
    PE X (.Call (.Name x p) (e :: es) [] pos) (tCall sp dvs Ex t) := by
  refine ⟨fun pins st σ Hx R I h => wpAny_Call_Name_kw (ld_glob I hg hm ?_ hdb)⟩
  refine PySem.W.callWith_K (h₀ := X.base) I.ok.mod.kin hk (thn (ha.run pos pins st σ Hx _ I h) ?_) he hpl
  rintro us s1 ⟨vs, H1, I1, r, q⟩
  have r2 : Vals (vs ++ dvs) (us ++ ds) := r.append hd
  exact ⟨I1.kIn, run_g F hgu hr hx I1 (hb s1 us I1.kIn (by rw [← r2.length]; exact F.len _ _ _ _ q)) r2 q rfl⟩

/-- f(a, .., k = b, ..) -/
theorem pe_gK {g : List Value → List Value → List Value} {gV : List V → List V → List V} (F : GFn X.prog X.w X.K X.mg X.base cx k f fd ps sp) (hgu : X.A.guards = some []) (hr : Room k X.A) (hg : Gl X x) (hm : X.mg x = some (.ref f)) (hk : PySem.W.keepIn X.K (.ref f) = true)
    (hb : KBinds X.K fd ps ks g gV) (hx : Passes cx X Ex) (ha : PA X (e :: es) t) (hkw : PK X kws tk) (hall : (backToKw pos (keywordEach kws X.env)).all (·.1.isSome) = true := by rfl) (hks : (backToKw pos (keywordEach kws X.env)).filterMap (·.1) = ks := by rfl)
    (hdb : (x == ("__debug__" : Str)) = false := by decide) (he : starEach (e :: es) X.env = (false, eval e X.env) :: starEach es X.env := by rfl)
    (hpl : ((backTo pos (starEach (e :: es) X.env)).any (·.1) || (backToKw pos (keywordEach kws X.env)).any (·.1.isNone)) = false := by rfl) :
    PE X (.Call (.Name x p) (e :: es) kws pos) (tCallK sp gV Ex t tk) := by
  refine ⟨fun pins st σ Hx R I h => wpAny_Call_Name_kw (ld_glob I hg hm ?_ hdb)⟩
  refine PySem.W.callWith_KW (h₀ := X.base) I.ok.mod.kin hk hall (thn (ha.run pos pins st σ Hx _ I h) ?_) hpl he
  rintro us s1 ⟨vs, H1, I1, r, q⟩
  refine thn (hkw.run pos pins s1 σ H1 _ I1 q) ?_
  rintro ws s2 ⟨zs, H2, I2, rz, q2⟩
  refine ⟨I2.kIn, ?_⟩
  rw [hks]
  have r2 := hb.rel r rz
  exact run_g F hgu hr hx I2 (hb.to s2 us ws I2.kIn (by rw [← r2.length]; exact F.len _ _ _ _ q2)) r2 q2 rfl
/-- f(k = b, ..) -/
theorem pe_gK0 {g : List Value → List Value → List Value} {gV : List V → List V → List V} (F : GFn X.prog X.w X.K X.mg X.base cx k f fd ps sp) (hgu : X.A.guards = some []) (hr : Room k X.A) (hg : Gl X x) (hm : X.mg x = some (.ref f)) (hk : PySem.W.keepIn X.K (.ref f) = true)
    (hb : KBinds X.K fd ps ks g gV) (hx : Passes cx X Ex) (hkw : PK X kws tk) (hall : (backToKw pos (keywordEach kws X.env)).all (·.1.isSome) = true := by rfl) (hks : (backToKw pos (keywordEach kws X.env)).filterMap (·.1) = ks := by rfl)
    (hdb : (x == ("__debug__" : Str)) = false := by decide) (hpl : ((backTo pos (starEach [] X.env)).any (·.1) || (backToKw pos (keywordEach kws X.env)).any (·.1.isNone)) = false := by rfl) :
    PE X (.Call (.Name x p) [] kws pos) (tCallK sp gV Ex tNil tk) := by
  refine ⟨fun pins st σ Hx R I h => wpAny_Call_Name_kw (ld_glob I hg hm ?_ hdb)⟩
  refine PySem.W.callWith_KW0 (h₀ := X.base) I.ok.mod.kin hk hall (thn (hkw.run pos pins st σ Hx _ I h) ?_) hpl
  rintro ws s2 ⟨zs, H2, I2, rz, q2⟩
  refine ⟨I2.kIn, ?_⟩
  rw [hks]
  have r2 := hb.rel (Paired.nil : Vals [] []) rz
  exact run_g F hgu hr hx I2 (hb.to s2 [] ws I2.kIn (by rw [← r2.length]; exact F.len _ _ _ _ q2)) r2 q2 rfl
end

/-! ### the law's own call -/
theorem law_g {mb : Str → Option Value} {k : Nat} {fa a : Addr} {fd : FuncData} {x : Str} {sp : Sp} {s1 : Shared} {its : List Value} {ns : List Int}
    (KX : K.In s1.heap) (hmg : s1.heap.Ns mainGlobals mg) (hmb : s1.heap.Ns builtinsNs mb) (hbb : ∀ x : Str, x ≠ "__name__" → mb x = bootBuiltins x) (hlim : s1.heap.NoLimit) (hdig : s1.heap.NoDigits) (hgen : s1.gens = #[])
    (ha : s1.heap.get? a = some { cls := .type "list", data := .seq its.toArray }) (hi : IntsAre its ns) (hl : ns.length ≤ sizeLine) (hr : Room k callerA)
    (F : ∀ ba : Heap, K.In ba → ba.Ns mainGlobals mg → ba.NoDigits → GFn pr wo K mg ba CX0 k fa fd [x] sp) (hbi : ∀ (st : Shared) (u : Value), BindsTo st fd ⟨[u], []⟩ [(x, u)])
    (hsp : ∀ Hx : Hp, Only Hx → SqL K Hx a (ns.map V.int) → sp [.ref a] Hx (fun v _ => v = .bl true) E0) :
    codeAny (model pr wo) callerA (.call (.ref fa) ⟨[.ref a], []⟩) (fun r s2 => r = .ok (.ret (.bool true)) ∧ OldK s1.heap s2.heap ∧ s2.os = s1.os ∧ AllBare s2.gens) s1 := by
  have rv := vals_ints hi
  have main : ∀ Hx : Hp, Only Hx → SqL K Hx a (ns.map V.int) → HOk pr wo Hx s1.heap → (∀ b, Hx b ≠ none → b = a) → (Hx a ≠ none → K.lookup a = none) →
      codeAny (model pr wo) callerA (.call (.ref fa) ⟨[.ref a], []⟩) (fun r s2 => r = .ok (.ret (.bool true)) ∧ OldK s1.heap s2.heap ∧ s2.os = s1.os ∧ AllBare s2.gens) s1 := by
    intro Hx hO hS ok one free
    have isA : ∀ {b : Addr} {u : HO}, Hx b = some u → b = a := fun {b u} q => one b (by rw [q]; nofun)
    have hid : ∀ {b : Addr} {o : Obj}, s1.heap.get? b = some o → Hx b = none → (hidT s1.heap Hx).get? b = some o := fun e n => hidT_get e n
    have noD : ∀ {b : Addr} {o : Obj} {es : Array DictEntry} {ep : Nat}, s1.heap.get? b = some o → o.data = .dict es ep → Hx b = none := by
      intro b o es ep e d
      rcases q : Hx b with _ | u
      · rfl
      · rw [isA q, ha] at e
        cases e
        cases d
    have nsH : ∀ {b : Addr} {m : Str → Option Value}, s1.heap.Ns b m → (hidT s1.heap Hx).Ns b m := by
      rintro b m ⟨o, es, ep, e, d, r⟩
      exact ⟨o, es, ep, hid e (noD e d), d, r⟩
    have kin : K.In (hidT s1.heap Hx) := by
      intro b o e
      refine hid (KX b o e) ?_
      rcases q : Hx b with _ | u
      · rfl
      · have eb := isA q
        subst eb
        rw [free (by rw [q]; nofun)] at e
        cases e
    have hM : Mod K mg (hidT s1.heap Hx) := ⟨kin, nsH hmg, ⟨mb, nsH hmb, hbb⟩, by obtain ⟨mc, h1, h2⟩ := hlim; exact ⟨mc, nsH h1, h2⟩⟩
    have e0 : Env0 pr wo K mg (hidT s1.heap Hx) callerA [] s1 Hx := ⟨rfl, hM, fun b o e => of_hidT e, Nat.le_of_eq (hidT_size _ _), trivial, fun b hb => (nomatch hb), ok, .of_eq hgen⟩
    refine codeAny_mono ((F _ kin (nsH hmg) (by obtain ⟨mc, h1, h2⟩ := hdig; exact ⟨mc, nsH h1, h2⟩)).go callerA [] s1 Hx ⟨[.ref a], []⟩ [.ref a] [.ref a] _ _ rfl hr e0 (hbi s1 (.ref a)) (.cons rfl .nil) (hsp Hx hO hS)) fun r s2 h => ?_
    rcases r with e | fl
    · exact False.elim h
    · cases fl with
      | next => exact False.elim h
      | brk => exact False.elim h
      | cont => exact False.elim h
      | ret u =>
        obtain ⟨v, H2, os, bare, un, ok2, r2, q⟩ := h
        obtain rfl : v = .bl true := q
        obtain rfl : u = Value.bool true := r2
        refine ⟨rfl, OldK.of_keep fun b o e => ?_, os, bare⟩
        rcases q : Hx b with _ | u
        · exact un.keep b o e q (fun z => nomatch z) (fun z => nomatch z)
        · rcases hO b with z | ⟨ob, xs, z⟩
          · rw [q] at z; cases z
          · obtain ⟨e1, _⟩ := ok b _ z
            obtain ⟨e2, _⟩ := ok2 b _ (un.frzs b ob _ z)
            rw [e] at e1
            cases e1
            exact e2
  rcases hk : K.lookup a with _ | o
  · refine main (fun b => if b = a then some (.frz { cls := .type "list", data := .seq its.toArray } (.lst (ns.map V.int))) else none) (fun b => ?_) (.inl (.inr ⟨_, if_pos rfl⟩)) (fun b u z => ?_) (fun b z => ?_) fun _ => hk
    · by_cases hb : b = a
      · exact .inr ⟨_, _, if_pos hb⟩
      · exact .inl (if_neg hb)
    · by_cases hb : b = a
      · cases (if_pos hb).symm.trans z
        subst hb
        exact ⟨ha, by rw [List.length_map]; exact hl, its, _, rv, ha⟩
      · cases (if_neg hb).symm.trans z
    · by_cases hb : b = a
      · exact hb
      · exact absurd (if_neg hb) z
  · have e := KX a o hk
    rw [ha] at e
    cases e
    exact main (fun _ => none) (fun _ => .inl rfl) (.inr ⟨_, its.toArray, _, hk, rfl, rfl, rfl, by rw [List.size_toArray, hi.length]; exact hl, by simpa using rv⟩) (fun b u z => nomatch z) (fun b z => absurd rfl z) fun z => absurd rfl z

theorem walk_g {l : PySem.W.OpenLaw} {n k : Nat} {q : Program} {loose : List Str} {XP : (Str → Option Value) → Heap → Prop} {YP : World → Heap → Prop} {d : DefRec} {K : Params → PySem.W.Frag} {sp : PySem.W.Frag → Sp} {x : Str}
    (hn : l.most = some n) (hn2 : n ≤ sizeLine) (hdf : d.params.defaults = []) (hr : Room k callerA)
    (hY : ∀ (wo : World) (h : Heap), YP wo h → (K wo.params).In h)
    (F : ∀ (wo : World) (mg : Str → Option Value) (fa : Addr) (h : Heap), (K wo.params).In h → h.Ns mainGlobals mg → mg d.name = some (.ref fa) →
      ∃ fd : FuncData, (∀ (st : Shared) (u : Value), BindsTo st fd ⟨[u], []⟩ [(x, u)]) ∧
        ∀ ba : Heap, (K wo.params).In ba → ba.Ns mainGlobals mg → ba.NoDigits → GFn l.prog wo (K wo.params) mg ba CX0 k fa fd [x] (sp (K wo.params)))
    (hsp : ∀ (K : PySem.W.Frag) (Hx : Hp) (a : Addr) (ns : List Int), ns.length ≤ n → Only Hx → SqL K Hx a (ns.map V.int) → sp K [.ref a] Hx (fun v _ => v = .bl true) E0) :
    PySem.W.WalkO q loose XP YP l.row.toRowW d [] (fun f vs => PySem.call f vs) := by
  refine Att.attach_call hn hdf fun w s₀ s₁ mg mb fa o pm cd doc a vs ns G Y ho hd hcd hmg hobj hints hlen hg => ?_
  have KX := hY w _ Y
  obtain ⟨fd, hb, hF⟩ := F w mg fa _ KX G.T.g hmg
  exact law_g KX G.T.g G.T.b G.T.builtins G.T.nolimit G.T.nodigits hg hobj hints (Nat.le_trans hlen hn2) hr hF hb fun Hx hO hS => hsp _ Hx a ns hlen hO hS
end SG

/-! repr of data at any depth, with ints of up to 4300 figures. -/
namespace SG
open PySem PySem.Spec PyProof.Rows L2

mutual
/-- data whose ints can be told -/
def tellable : PyData → Bool
  | .int i => decide (i.natAbs < 10 ^ 4300)
  | .list xs => tellableAll xs
  | .tuple xs => tellableAll xs
  | .dict _ => false
  | .none => true
  | .bool _ => true
  | .str _ => true
def tellableAll : List PyData → Bool
  | [] => true
  | x :: xs => tellable x && tellableAll xs
end

section
variable {pr : Program} {wo : World} {B : Around} {Er : Value → Shared → Prop} {st : Shared}
theorem int_told {i : Int} {t : Tok} {Q : Value → Shared → Prop} (hn : st.heap.NoDigits) (hi : i.natAbs < 10 ^ 4300) (hq : Q (.str (toString i) st.toks) { st with toks := st.toks + 1 }) :
    wpAny (model pr wo) B (call (.builtin "int.__repr__") [.int i t]) Q Er st := by
  refine wpAny_call_entry F.slot_int_repr (typeIs_int st i t) F.entry_int_repr ?_ (F.args_int_repr_1 _)
  unfold Builtin.«int.__repr__»
  show wpAny _ _ (Builtin.overDigitLimit? i >>= _) _ _ st
  exact wpAny_bind (overDigitLimit_any hn (fun h => wpAny_bind (wpAny_mkStr (wpAny_pure ⟨_, rfl, hq⟩) (int_text_fits10 h))) fun h => absurd hi (Nat.not_lt.mpr h))
theorem int_shown {i : Int} {t : Tok} {Q : Value → Shared → Prop} (hu : B.units < cLine) (hn : st.heap.NoDigits) (hi : i.natAbs < 10 ^ 4300) (hq : Q (.str (toString i) st.toks) { st with toks := st.toks + 1 }) :
    wpAny (model pr wo) B (pyReprObj (.int i t)) Q Er st :=
  wpAny_pyReprObj_slot hu (typeIs_int _ i t) F.slot_int_repr.toG (int_told hn hi ⟨_, _, rfl, hq⟩)
theorem int_repr {i : Int} {t : Tok} {Q : Value → Shared → Prop} (hu : B.units + 1 < cLine) (hn : st.heap.NoDigits) (hi : i.natAbs < 10 ^ 4300) (hq : Q (.str (toString i) st.toks) { st with toks := st.toks + 1 }) :
    wpAny (model pr wo) B (call (.builtin "repr") [.int i t]) Q Er st :=
  call_repr_slot hu (typeIs_int _ i t) F.slot_int_repr.toG (int_told hn hi ⟨_, _, rfl, hq⟩)
theorem reprK_int {as : List Addr} {h₀ : Heap} {i : Int} {t : Tok} (hn : h₀.NoDigits) (hi : i.natAbs < 10 ^ 4300) (d : Nat) : ReprK pr wo as h₀ d (.int i t) (toString i) := by
  intro base hb A g E s Q hg hcl hu hk hQ
  rw [pyReprUnder_leaf (v := .int i t) (by omega) (fun _ e => nomatch e)]
  unfold pyRepr
  exact wpAny_bind (int_shown (by omega) (hn.keeps hk) hi (wpAny_pure (hQ s.heap _ fun _ _ e => e)))
mutual
theorem reprK_any {h₀ : Heap} (hn : h₀.NoDigits) : ∀ {v : Value} {d : PyData} {as : List Addr}, Reads h₀ v d as → tellable d = true → d.shown.length ≤ sizeLine →
    ∃ bs, ReadAtMost h₀ d.depth bs ∧ ReprK pr wo bs h₀ d.depth v d.shown := by
  intro v d as r ht hz
  cases r with
  | none => exact ⟨[], (fun _ h => nomatch h), by simp only [PyData.shown]; exact .of_is ReprIs.none _ _ _⟩
  | bool b => exact ⟨[], (fun _ h => nomatch h), by simp only [PyData.shown]; exact .of_is (ReprIs.bool b) _ _ _⟩
  | str x t => exact ⟨[], (fun _ h => nomatch h), by simp only [PyData.shown] at hz ⊢; exact .of_is (ReprIs.str x t hz) _ _ _⟩
  | int i t => exact ⟨[], (fun _ h => nomatch h), by simp only [PyData.shown]; exact reprK_int hn (of_decide_eq_true (by simpa only [tellable] using ht)) _⟩
  | list q1 q2 q3 q4 =>
    rename_i a o arr n xs bs₀
    have hz2 : (listText (PyData.shownAll xs)).length ≤ sizeLine := by simpa only [PyData.shown] using hz
    obtain ⟨bs, rb, kb⟩ := reprAllK_any hn q4 (by simpa [tellable] using ht) fun t m => Nat.le_trans (listText_mem_le m) hz2
    have whole : Reads h₀ (.ref a) (.list xs) _ := .list q1 q2 q3 q4
    refine ⟨a :: bs, ReadAtMost.cons whole (by simp only [PyData.depth]; omega) rb, ?_⟩
    have notIn : a ∉ bs := not_mem_of_deeper whole (by simp only [PyData.depth]; omega) rb
    simp only [PyData.depth, PyData.shown]
    rcases arr with ⟨_ | ⟨y, l⟩⟩
    · cases (show ReadsAll h₀ [] xs _ from q4)
      simp only [PyData.shownAll, listText_nil]
      exact ReprK.listEmpty q1 q2 q3
    · exact ReprK.list q1 q2 q3 notIn (by simpa using kb.length_eq) fun i y e => kb.item i y (by simpa using e)
  | tuple q1 q2 q3 q4 =>
    rename_i a o arr n xs
    have hz2 : (tupleText (PyData.shownAll xs)).length ≤ sizeLine := by simpa only [PyData.shown] using hz
    obtain ⟨bs, rb, kb⟩ := reprAllK_any hn q4 (by simpa [tellable] using ht) fun t m => Nat.le_trans (tupleText_mem_le m) hz2
    have whole : Reads h₀ (.ref a) (.tuple xs) _ := .tuple q1 q2 q3 q4
    refine ⟨a :: bs, ReadAtMost.cons whole (by simp only [PyData.depth]; omega) rb, ?_⟩
    have notIn : a ∉ bs := not_mem_of_deeper whole (by simp only [PyData.depth]; omega) rb
    simp only [PyData.depth, PyData.shown]
    exact ReprK.tuple q1 q2 q3 notIn kb
  | dict => simp [tellable] at ht
theorem reprAllK_any {h₀ : Heap} (hn : h₀.NoDigits) : ∀ {vs : List Value} {ds : List PyData} {as : List Addr}, ReadsAll h₀ vs ds as → tellableAll ds = true → (∀ t ∈ PyData.shownAll ds, t.length ≤ sizeLine) →
    ∃ bs, ReadAtMost h₀ (PyData.depthAll ds) bs ∧ ReprAllK pr wo bs h₀ (PyData.depthAll ds) vs (PyData.shownAll ds) := by
  intro vs ds as r ht hz
  cases r with
  | nil => exact ⟨[], (fun _ h => nomatch h), by simp only [PyData.shownAll]; exact .nil⟩
  | cons q1 q2 =>
    rename_i v vs d ds as₁ as₂
    have ht2 : tellable d = true ∧ tellableAll ds = true := by simpa [tellableAll] using ht
    obtain ⟨c1, rc1, k1⟩ := reprK_any hn q1 ht2.1 (hz _ (by simp only [PyData.shownAll]; exact List.mem_cons_self))
    obtain ⟨c2, rc2, k2⟩ := reprAllK_any hn q2 ht2.2 fun t m => hz t (by simp only [PyData.shownAll]; exact List.mem_cons_of_mem _ m)
    refine ⟨c1 ++ c2, (rc1.mono ?_).append (rc2.mono ?_), ?_⟩
    · simp only [PyData.depthAll]; exact Nat.le_max_left _ _
    · simp only [PyData.depthAll]; exact Nat.le_max_right _ _
    · simp only [PyData.depthAll, PyData.shownAll]
      exact .cons ((k1.more fun b m => List.mem_append_left _ m).level_le (Nat.le_max_left _ _)) (k2.more_le (fun b m => List.mem_append_right _ m) (Nat.le_max_right _ _))
end
/-- repr of what is no leaf -/
theorem repr_ref {h₀ : Heap} {a : Addr} {d : PyData} {as : List Addr} {Q : Value → Shared → Prop} (hn : h₀.NoDigits) (r : Reads h₀ (.ref a) d as) (ht : tellable d = true) (hz : d.shown.length ≤ sizeLine)
    (hg : B.guards = some []) (hu : B.units + (d.depth + 1) < cLine) (hk : ∀ b o, h₀.get? b = some o → st.heap.get? b = some o)
    (hQ : ∀ h2 u tk, (∀ b o, st.heap.get? b = some o → h2.get? b = some o) → Q (.str d.shown u) { st with heap := h2, toks := tk }) :
    wpAny (model pr wo) B (call (.builtin "repr") [.ref a]) Q Er st := by
  cases r with
  | list q1 q2 q3 q4 =>
    rename_i o arr n xs bs₀
    have whole : Reads h₀ (.ref a) (.list xs) _ := .list q1 q2 q3 q4
    simp only [PyData.depth] at hu
    simp only [PyData.shown] at hQ hz
    obtain ⟨bs, rb, kb⟩ := reprAllK_any (pr := pr) (wo := wo) hn q4 (by simpa [tellable] using ht) fun t m => Nat.le_trans (listText_mem_le m) hz
    have notIn : a ∉ bs := not_mem_of_deeper whole (by simp only [PyData.depth]; omega) rb
    refine call_repr_slot (by omega) ⟨o, hk _ _ q1, q2⟩ F.slot_list_repr.toG ?_
    rcases arr with ⟨_ | ⟨y, l⟩⟩
    · cases (show ReadsAll h₀ [] xs _ from q4)
      simp only [PyData.shownAll, listText_nil] at hQ
      exact call_list_repr_empty ⟨o, hk _ _ q1, q2⟩ (hk _ _ q1) q3 ⟨_, _, rfl, hQ st.heap _ _ fun _ _ e => e⟩
    · exact call_list_reprK q1 q2 q3 notIn (by simpa using kb.length_eq) (fun i y e => kb.item i y (by simpa using e)) hg (fun b _ => Clear.nil b) (by show B.units + 1 + _ < _; omega) hk (fun h2 u tk q => ⟨_, _, rfl, hQ h2 u tk q⟩) hz
  | tuple q1 q2 q3 q4 =>
    rename_i o arr n xs
    have whole : Reads h₀ (.ref a) (.tuple xs) _ := .tuple q1 q2 q3 q4
    simp only [PyData.depth] at hu
    simp only [PyData.shown] at hQ hz
    obtain ⟨bs, rb, kb⟩ := reprAllK_any (pr := pr) (wo := wo) hn q4 (by simpa [tellable] using ht) fun t m => Nat.le_trans (tupleText_mem_le m) hz
    have notIn : a ∉ bs := not_mem_of_deeper whole (by simp only [PyData.depth]; omega) rb
    refine call_repr_slot (by omega) ⟨o, hk _ _ q1, q2⟩ F.slot_tuple_repr ?_
    exact call_tuple_reprK q1 q2 q3 notIn kb hg (fun b _ => Clear.nil b) (by show B.units + 1 + _ < _; omega) hk (fun h2 u tk q => ⟨_, _, rfl, hQ h2 u tk q⟩) hz
  | dict => simp [tellable] at ht
/-- repr of the empty dict -/
theorem repr_dict0 {a : Addr} {o : Obj} {n : Nat} {Q : Value → Shared → Prop} (q1 : st.heap.get? a = some o) (q2 : o.cls = .type "dict") (q3 : o.data = .dict #[] n) (hs : (a == sysModules) = false)
    (hg : B.guards = some []) (hu : B.units + 2 < cLine)
    (hQ : ∀ h2 u tk, (∀ b o, st.heap.get? b = some o → h2.get? b = some o) → Q (.str "{}" u) { st with heap := h2, toks := tk }) :
    wpAny (model pr wo) B (call (.builtin "repr") [.ref a]) Q Er st := by
  have r : Reads st.heap (.ref a) (.dict []) ([a] ++ []) := .dict (as := []) (bs := []) q1 q2 q3 .nil .nil
  refine repr_of_reads' (d := .dict []) r rfl (fun _ m => ?_) hg (by show B.units + (PyData.depth (.dict []) + 1) < _; simp only [PyData.depth, PyData.depthKv]; omega) (fun _ _ e => e) ?_ (by decide +kernel)
  · have e : sysModules = a := by simpa using m
    rw [e] at hs
    simp at hs
  · have e : PyData.shown (.dict []) = "{}" := by decide +kernel
    rw [e]
    exact hQ
end

section
variable {X : Cx}
/-- no limit of its own was put to the figures of ints -/
theorem digs {pins : List (Addr × Obj)} {σ : L2.St} {Hx : Hp} {st : Shared} (hn : X.base.NoDigits) (I : Inv X pins σ Hx st) : st.heap.NoDigits := hn.keeps I.bk
def rRepr (K : PySem.W.Frag) : List V → Hp → VK → Prop := fun xs Hx R => ∃ x, xs = [x] ∧
  ((∃ d, Dp K Hx x d ∧ tellable d = true ∧ d.depth ≤ 60 ∧ d.shown.length ≤ sizeLine ∧ R (.str d.shown) Hx) ∨ (∃ a, x = .ref a ∧ Hx a = some (.dK []) ∧ R (.str "{}") Hx))
theorem call_reprG (hn : X.base.NoDigits) (hg : X.A.guards = some []) {k : Nat} (hr : Room k X.A) : CallR X (.builtin "repr") (rRepr X.K) := by
  intro pins st σ Hx xs us R I rv h
  obtain ⟨x, rfl, h⟩ := h
  obtain ⟨u, rfl, rx⟩ : ∃ u, us = [u] ∧ RelV x u := by
    cases rv with
    | cons a b => cases b; exact ⟨_, rfl, a⟩
  have hu := hr.units
  rcases h with ⟨d, hd, ht, hdep, hz, q⟩ | ⟨a, rfl, ha, q⟩
  · cases x with
    | ref a =>
      obtain ⟨as, r⟩ := Dp.reads I d (.ref a) u hd rx
      obtain rfl : u = Value.ref a := rx
      exact repr_ref (digs hn I) r ht hz hg (by omega) (fun _ _ e => e) fun h2 u tk hk => ⟨.str _, Hx, I.kept (t' := tk) hk, ⟨_, rfl⟩, q⟩
    | int i =>
      obtain ⟨t, rfl⟩ := rx
      cases hd
      simp only [PyData.shown] at q
      exact int_repr (by omega) (digs hn I) (of_decide_eq_true (by simpa only [tellable] using ht)) ⟨.str _, Hx, I.tok _, ⟨_, rfl⟩, q⟩
    | str y =>
      obtain ⟨t, rfl⟩ := rx
      cases hd
      simp only [PyData.shown] at q hz
      exact PySem.P.repr_of_str ⟨.str _, Hx, I.tok _, ⟨_, rfl⟩, q⟩ hz
    | bl b =>
      obtain rfl : u = Value.bool b := rx
      cases hd
      simp only [PyData.shown] at q
      exact PySem.P.repr_of_bool ⟨.str _, Hx, I.tok _, ⟨_, rfl⟩, q⟩
    | non =>
      obtain rfl : u = Value.none := rx
      cases hd
      simp only [PyData.shown] at q
      exact PySem.P.repr_of_none ⟨.str _, Hx, I.tok _, ⟨_, rfl⟩, q⟩
    | byt b => cases hd
    | flt b => cases hd
    | ty b => cases hd
  · obtain rfl : u = Value.ref a := rx
    obtain ⟨_, hs, vs, kv, o, es, ep, e1, e2, e3, e4, e5, _⟩ := I.hok a _ ha
    cases kv
    have e6 : es = #[] := by
      cases es with
      | mk l => cases l with
        | nil => rfl
        | cons y l => cases e5
    subst e6
    exact repr_dict0 e1 e2.1 e3 hs hg (by omega) fun h2 u tk hk => ⟨.str _, Hx, I.kept (t' := tk) hk, ⟨_, rfl⟩, q⟩
end
end SG

/-! enumerate of a tuple. -/
namespace SG
open PySem PySem.Spec PyProof.Rows L2

set_option maxHeartbeats 1000000 in
theorem meets_enum1 {v : Value} {o : Obj} {Ho : Heap → Prop} (B : Begins v o Ho) :
    Meets (Builtin.«enumerate.__new__» ⟨[.type "enumerate", v], []⟩) (fun _ R st => Ho st.heap ∧
      R (.ok (.ret (.ref (st.heap.push o).objs.size))) { st with heap := (st.heap.push o).push { cls := .type "enumerate", data := .fields #[.none, .bool false, .ref st.heap.objs.size, rawInt 0, .none, .none] } }) :=
  .of_wp fun prog w A R st h => by
    obtain ⟨hp, g, d, tk, os⟩ := st
    obtain ⟨h1, h⟩ := h
    have hsub := sub_enumerate
    have it1 : ∀ {A' : Around} {E : Value → Shared → Prop} {Q : Value → Shared → Prop}, Q (.ref hp.objs.size) ⟨hp.push o, g, d, tk, os⟩ → wpAny (model prog w) A' (pyIter v) Q E ⟨hp, g, d, tk, os⟩ :=
      fun q => B.iter prog w _ _ ⟨hp, g, d, tk, os⟩ _ h1 q
    wp_walk using it1
    refine wpAny_stack_any fun stk => wpAny_pure ?_
    split
    · rename_i c _ _ _ _ _
      cases (c == Value.type "enumerate")
      · wp_walk using it1
        exact ⟨_, rfl, h⟩
      · wp_walk using it1
        exact ⟨_, rfl, h⟩
    · wp_walk using it1
      exact ⟨_, rfl, h⟩
section
variable {prog : Program} {w : World} {A : Around} {E : Value → Shared → Prop} {st : Shared}
theorem enum1_begins {v : Value} {o : Obj} {Ho : Heap → Prop} {Q : Value → Shared → Prop} (B : Begins v o Ho) (h1 : Ho st.heap)
    (h : ∀ h2, IsEnum h2 (st.heap.objs.size + 1) st.heap.objs.size 0 .none → h2.get? st.heap.objs.size = some o → h2.objs.size = st.heap.objs.size + 2 →
      (∀ b u, st.heap.get? b = some u → h2.get? b = some u) → Q (.ref (st.heap.objs.size + 1)) { st with heap := h2 }) :
    wpAny (model prog w) A (call (.type "enumerate") [v]) Q E st := by
  refine callType_new F.called_enumerate (by decide) (F.typeCall_enumerate_1 _) (F.newCall_enumerate_1 _) (fun obj => F.args_object_init_2 obj _) F.entry_enumerate_new (meets_enum1 B) ⟨h1, ?_⟩
  have hz : (st.heap.push o).objs.size = st.heap.objs.size + 1 := Heap.size_push ..
  show _ ∧ _
  rw [hz]
  have he : IsEnum ((st.heap.push o).push { cls := .type "enumerate", data := .fields #[.none, .bool false, .ref st.heap.objs.size, rawInt 0, .none, .none] }) (st.heap.objs.size + 1) st.heap.objs.size 0 .none := by
    have z := Heap.get?_push_size (st.heap.push o) (o := { cls := .type "enumerate", data := .fields #[.none, .bool false, .ref st.heap.objs.size, rawInt 0, .none, .none] }) rfl
    rw [hz] at z
    exact z
  exact ⟨⟨_, he, rfl⟩, h _ he (Heap.get?_push_of_some _ (Heap.get?_push_size _ B.free)) (by rw [Heap.size_push, hz]) fun b u x => Heap.get?_push_of_some _ (Heap.get?_push_of_some _ x)⟩
end

/-- the tuple at a, each item in a new pair -/
def IteT (K : PySem.W.Frag) (a : Addr) : It :=
  ⟨fun i Hx => ∃ (xs : List V) (x : V), SqT K Hx a xs ∧ xs[i]? = some x, fun i Hx v H2 => ∃ T x, v = .ref T ∧ Hx T = none ∧ H2 = upd Hx T (.tup [.int (i : Nat), x]) ∧ ∀ xs, SqT K Hx a xs → xs[i]? = some x, fun i Hx => ∃ xs : List V, SqT K Hx a xs ∧ xs.length ≤ i⟩
theorem turn_enumT {P : Program} {w : World} {K : PySem.W.Frag} {elts : List Expr} {kk : Nat} {tpos : Pos} (a e it : Addr) :
    Turn P w K (.Tuple elts kk tpos) (IteT K a) [e, it] e (fun i h => (∃ old, IsEnum h e it ((i : Nat) : Int) old) ∧ h.IsTupleIter it a i ∧ e ≠ it ∧ a ≠ it ∧ a ≠ e) where
  mem := by simp
  obj := fun i h q b hb => by
    obtain ⟨⟨old, he⟩, ⟨o, ho, hc, hd⟩, _⟩ := q
    rcases (show b = e ∨ b = it by simpa using hb) with z | z
    · rw [z]; exact ⟨_, he, fun v q => nomatch q⟩
    · rw [z]; exact ⟨o, ho, fun v q => by rw [hd] at q; cases q⟩
  keep := fun i h h2 q k => by
    obtain ⟨⟨old, he⟩, hi, hne⟩ := q
    exact ⟨⟨old, k e (by simp) _ he⟩, hi.at fun o q => k it (by simp) o q, hne⟩
  item := by
    intro X hP hw hK hc i pins st σ Hx E I hf q hg
    subst hP hw hK
    obtain ⟨⟨old, he⟩, hit, hne, n1, n2⟩ := q
    obtain ⟨xs, x, hq, hx⟩ := hg
    obtain ⟨its, rv, p, hz⟩ := I.tuple hq
    obtain ⟨u, hu, ru⟩ := rv.get hx
    have hel : e < st.heap.objs.size := Heap.lt_size he
    have hil : it < st.heap.objs.size := by obtain ⟨_, z, _⟩ := hit; exact Heap.lt_size z
    have hi : i < its.toArray.size := by
      have z := (List.getElem?_eq_some_iff.mp hu).1
      simpa using z
    refine wpAny_pyNext_enum_itemD (Draws.tuple (prog := X.prog) (w := X.w) (A := X.A.in1) (I.ok.hd hc) it a n1 its.toArray) he ⟨hit, p⟩ hi hne (by simp [hne, n2.symm]) fun y h1 tk hy ho hs1 hT hsz hk => ?_
    obtain rfl : y = u := by
      rw [show its.toArray[i]? = some u by simpa using hu] at hy
      exact (Option.some.inj hy).symm
    refine ⟨_, rfl, wpAny_letOwnedTupleGo_enum (s := { st with heap := h1, toks := tk + 1 }) ho fun h2 he2 sb => ?_⟩
    have hT2 : h2.get? st.heap.objs.size = some { cls := .type "tuple", data := .seq #[.int i tk, y] } := (sb.2 _ (Nat.ne_of_gt hel)).trans hT
    have new : ObjOk X.prog X.w (upd Hx st.heap.objs.size (.tup [.int (i : Nat), x])) h2 st.heap.objs.size (.tup [.int (i : Nat), x]) :=
      ⟨by show 2 ≤ sizeLine; decide, [.int i tk, y], .cons ⟨_, rfl⟩ (.cons ru .nil), ⟨_, hT2, rfl, _, rfl⟩⟩
    have I1 : L2.Inv X pins σ (upd Hx st.heap.objs.size (.tup [.int (i : Nat), x])) { st with heap := h2, toks := tk + 1 } :=
      I.turnedNew (ch := [e, it]) (fun b ob hb z => (sb.2 b (fun z => hb (by simp [z]))).trans (hk b ob (fun z => hb (by simp [z])) (fun z => hb (by simp [z])) z)) hf (Nat.le_refl _) new
    refine ⟨.ref st.heap.objs.size, _, I1, rfl, ⟨_, x, rfl, I.hok.fresh (Nat.le_refl _), rfl, fun ys hy => by rw [I.tuple_inj hy hq]; exact hx⟩, ⟨⟨y, ?_⟩, hs1.1.at fun o z => (sb.2 it (Ne.symm hne)).trans z, hne, n1, n2⟩, fun b hb => ?_⟩
    · rw [show ((i + 1 : Nat) : Int) = (i : Int) + 1 by omega]
      exact he2
    · have hb2 : b < st.heap.objs.size := by
        rcases (show b = e ∨ b = it by simpa using hb) with z | z
        · rw [z]; exact hel
        · rw [z]; exact hil
      rw [upd_ne (Nat.ne_of_lt hb2)]
      exact (hf b hb).1
  done := by
    intro X hP hw hK hc i pins st σ Hx E I hf q hg
    subst hP hw hK
    obtain ⟨⟨old, he⟩, hit, hne, n1, n2⟩ := q
    obtain ⟨xs, hq, hx⟩ := hg
    obtain ⟨its, rv, p, hz⟩ := I.tuple hq
    obtain ⟨f0, f1, f2, f3, f4, f5⟩ := hf it (by simp)
    have hl := rv.length
    have D : Draws X.prog X.w X.A.in1 it [it, a] i (fun _ _ => True) (fun j h => j = i ∧ h.IsTupleIter it a i ∧ h.IsTuple a its.toArray) :=
      { live := fun _ _ z => by obtain ⟨_, ⟨o, ho, _⟩, _⟩ := z; exact ⟨o, ho⟩
        frame := fun _ _ _ z hk => ⟨z.1, z.2.1.at fun o e => hk it (by simp) o e, z.2.2.at fun o e => hk a (by simp) o e⟩
        item := fun j s Q E hj z => absurd z.1 (Nat.ne_of_lt hj)
        done := fun s Q E z hE => wpAny_nextOf_tuple_end (I.ok.hd hc) z.2.1 z.2.2 (by simp; omega) hE }
    exact wpAny_pyNext_enum_endD D he ⟨rfl, hit, p⟩ fun h2 eb => ⟨rfl, I.turned (t' := st.toks) (fun b o hb q => eb b o hb q) f0 f1 f3 f4 f5⟩
  self := fun A i st Q E q h => by
    obtain ⟨⟨_, he⟩, _⟩ := q
    exact wpAny_pyIter_enum he h
def iEnumT (K : PySem.W.Frag) (ta : TA) : TI := fun σ Hx R => ta σ Hx fun vs H1 => ∃ a xs, vs = [.ref a] ∧ SqT K H1 a xs ∧ R (IteT K a) H1
theorem pi_enumT {X : Cx} {e : Expr} {ta : TA} {p pos tpos : Pos} {elts : List Expr} {kk : Nat} (hg : Gl X "enumerate") (hm : X.mg "enumerate" = none) (ha : PA X [e] ta) (hs : starEach [e] X.env = [(false, eval e X.env)] := by rfl) :
    PI X (.Tuple elts kk tpos) (.Call (.Name "enumerate" p) [e] [] pos) (iEnumT X.K ta) := by
  refine ⟨fun pins st σ Hx R I h => ?_⟩
  refine Call_ (ld_blt I hg hm boot_enumerate (PyProof.Rows.callWith_type1 (thn (ha.run pos pins st σ Hx _ I h) ?_) hs rfl))
  rintro us s1 ⟨vs, H1, I1, r1, a, xs, rfl, hq, q⟩
  obtain ⟨u, rfl, ru⟩ : ∃ u, us = [u] ∧ RelV (.ref a) u := by
    cases r1 with
    | cons x y => cases y; exact ⟨_, rfl, x⟩
  obtain rfl : u = Value.ref a := ru
  obtain ⟨its, rv, p2, hz⟩ := I1.tuple hq
  have al : a < s1.heap.objs.size := p2.lt
  refine enum1_begins (begins_tuple a its.toArray) p2 fun h2 he hit hsz hk => wpAny_pyIter_enum he ?_
  have I2 : L2.Inv X pins σ H1 { s1 with heap := h2 } := I1.kept (t' := s1.toks) hk
  refine ⟨s1.heap.objs.size + 1, [s1.heap.objs.size + 1, s1.heap.objs.size], _, _, H1, rfl, I2, turn_enumT a (s1.heap.objs.size + 1) s1.heap.objs.size,
    ⟨⟨.none, he⟩, ⟨_, hit, rfl, rfl⟩, Nat.succ_ne_self _, Nat.ne_of_lt al, Nat.ne_of_lt (Nat.lt_succ_of_lt al)⟩, fun b hb => ?_, q⟩
  have hle : s1.heap.objs.size ≤ b := by
    rcases (show b = s1.heap.objs.size + 1 ∨ b = s1.heap.objs.size by simpa using hb) with z | z
    · rw [z]; exact Nat.le_succ _
    · rw [z]; exact Nat.le_refl _
  exact I1.fpOk hle (I1.hok.fresh hle)
end SG

/-! The deck that laws draw from; what stays when it is drawn from. -/
namespace SG
open PySem PySem.Spec PyProof.Rows L2

abbrev kC : Key := Sum.inr ("cells" : Str)
abbrev kM : Key := Sum.inr ("mixed" : Str)
abbrev kD : Key := Sum.inr ("draws" : Str)
theorem kne1 : ¬ kC = kM := by decide +kernel
theorem kne2 : ¬ kC = kD := by decide +kernel
theorem kne3 : ¬ kM = kD := by decide +kernel
def deckO (l : Addr) (m n : Int) : List (Key × V) := [(kC, .ref l), (kM, .int m), (kD, .int n)]
theorem deck_cells (l : Addr) (m n : Int) : valV (deckO l m n) kC = some (.ref l) := valV_pos rfl
theorem deck_mixed (l : Addr) (m n : Int) : valV (deckO l m n) kM = some (.int m) := (valV_neg kne1).trans (valV_pos rfl)
theorem deck_draws (l : Addr) (m n : Int) : valV (deckO l m n) kD = some (.int n) := (valV_neg kne2).trans ((valV_neg kne3).trans (valV_pos rfl))
theorem deck_put (l : Addr) (m n k : Int) : putK (deckO l m n) kD (.int k) = deckO l m k := by
  have e : (decide (kD = kD)) = true := decide_eq_true rfl
  show (if (decide (kC = kD) || (decide (kM = kD) || (decide (kD = kD) || false))) = true then [if kC = kD then (kC, V.int k) else (kC, V.ref l), if kM = kD then (kM, V.int k) else (kM, V.int m), if kD = kD then (kD, V.int k) else (kD, V.int n)] else _) = _
  rw [decide_eq_false kne2, decide_eq_false kne3, e, if_neg kne2, if_neg kne3, if_pos rfl]
  rfl
theorem deck_made (l : Addr) (m n : Int) : mergeK [] (deckO l m n) = deckO l m n := by
  have e1 : putK ([] : List (Key × V)) kC (.ref l) = [(kC, .ref l)] := rfl
  have e2 : putK [(kC, V.ref l)] kM (.int m) = [(kC, .ref l), (kM, .int m)] := by
    show (if (decide (kC = kM) || false) = true then _ else [(kC, V.ref l)] ++ [(kM, V.int m)]) = _
    rw [decide_eq_false kne1]
    rfl
  have e3 : putK [(kC, V.ref l), (kM, V.int m)] kD (.int n) = deckO l m n := by
    show (if (decide (kC = kD) || (decide (kM = kD) || false)) = true then _ else [(kC, V.ref l), (kM, V.int m)] ++ [(kD, V.int n)]) = _
    rw [decide_eq_false kne2, decide_eq_false kne3]
    rfl
  show putK (putK (putK [] kC (.ref l)) kM (.int m)) kD (.int n) = _
  rw [e1, e2, e3]

/-- a deck stands at d, its cells at l; it was asked at most c times -/
def Deck (H : Hp) (d l : Addr) (c : Nat) : Prop :=
  ∃ (cs : List Int) (m n : Int), H d = some (.dK (deckO l m n)) ∧ H l = some (.lst (cs.map V.int)) ∧ (0 ≤ m ∧ m < 2147483648) ∧ (0 ≤ n ∧ n ≤ (c : Int)) ∧ cs.length ≤ 63
/-- all stays but the deck and its cells -/
def Kept (d l : Addr) (H H2 : Hp) : Prop := ∀ b o, H b = some o → b ≠ d → b ≠ l → H2 b = some o
theorem Kept.refl (d l : Addr) (H : Hp) : Kept d l H H := fun _ _ e _ _ => e
theorem Kept.trans {d l : Addr} {H H1 H2 : Hp} (a : Kept d l H H1) (b : Kept d l H1 H2) : Kept d l H H2 := fun c o e h1 h2 => b c o (a c o e h1 h2) h1 h2
theorem Kept.of {d l : Addr} {H H1 : Hp} (a : Same H H1) : Kept d l H H1 := fun c o e _ _ => a c o e
theorem Deck.mono {H : Hp} {d l : Addr} {c e : Nat} (D : Deck H d l c) (h : c ≤ e) : Deck H d l e := by
  obtain ⟨cs, m, n, h1, h2, h3, h4, h5⟩ := D
  exact ⟨cs, m, n, h1, h2, h3, ⟨h4.1, by omega⟩, h5⟩
theorem Deck.same {H H1 : Hp} {d l : Addr} {c : Nat} (D : Deck H d l c) (s : Same H H1) : Deck H1 d l c := by
  obtain ⟨cs, m, n, h1, h2, h3⟩ := D
  exact ⟨cs, m, n, s _ _ h1, s _ _ h2, h3⟩
theorem Deck.upd {H : Hp} {d l p : Addr} {c : Nat} {o : HO} (D : Deck H d l c) (hp : H p = none) : Deck (upd H p o) d l c := by
  obtain ⟨cs, m, n, h1, h2, h3⟩ := D
  exact ⟨cs, m, n, by rw [upd_ne (ne_of_none h1 hp)]; exact h1, by rw [upd_ne (ne_of_none h2 hp)]; exact h2, h3⟩
theorem same_new {H : Hp} {p : Addr} {o : HO} (h : H p = none) : Same H (upd H p o) := fun b x e => by
  rw [upd_ne (ne_of_none e h)]
  exact e
/-- tuples stay -/
theorem Kept.tup {K : PySem.W.Frag} {d l : Addr} {H H2 : Hp} {c : Nat} {a : Addr} {xs : List V} (k : Kept d l H H2) (D : Deck H d l c) (h : SqT K H a xs) : SqT K H2 a xs := by
  obtain ⟨cs, m, n, h1, h2, _⟩ := D
  rcases h with (h | ⟨o, h⟩) | h
  · exact .inl (.inl (k _ _ h (ne_of h h1 nofun) (ne_of h h2 nofun)))
  · exact .inl (.inr ⟨o, k _ _ h (ne_of h h1 nofun) (ne_of h h2 nofun)⟩)
  · exact .inr h
theorem sameT {K : PySem.W.Frag} {H H2 : Hp} {a : Addr} {xs : List V} (s : Same H H2) (h : SqT K H a xs) : SqT K H2 a xs := by
  rcases h with (h | ⟨o, h⟩) | h
  · exact .inl (.inl (s _ _ h))
  · exact .inl (.inr ⟨o, s _ _ h⟩)
  · exact .inr h
/-! ### ints as data -/
def dI (ns : List Int) : List PyData := ns.map PyData.int
theorem dpInts {K : PySem.W.Frag} {H : Hp} : ∀ ns : List Int, DpAll K H (ns.map V.int) (dI ns)
  | [] => .nil
  | n :: ns => .cons (.int n) (dpInts ns)
theorem layI : ∀ ns : List Int, PyData.canLayAll0 (dI ns) = true
  | [] => by simp [dI, PyData.canLayAll0]
  | n :: ns => by
    show PyData.canLayAll0 (PyData.int n :: dI ns) = true
    simp [PyData.canLayAll0, PyData.canLay0, layI ns]
theorem depI : ∀ ns : List Int, PyData.depthAll (dI ns) = 0
  | [] => by simp [dI, PyData.depthAll]
  | n :: ns => by
    show PyData.depthAll (PyData.int n :: dI ns) = 0
    simp [PyData.depthAll, PyData.depth, depI ns]
theorem shI (ns : List Int) : SeqAt.shaped (.list (dI ns)) = true := by
  simp [SeqAt.shaped, PyData.canLay0, PyData.depth, layI, depI]
theorem shTI (ns : List Int) : SeqAt.shaped (.tuple (dI ns)) = true := by
  simp [SeqAt.shaped, PyData.canLay0, PyData.depth, layI, depI]
theorem eqvI_nil : ∀ ns : List Int, PyData.eqv (.list (dI ns)) (.list []) = ns.isEmpty
  | [] => by simp [dI, PyData.eqv, PyData.eqvAll]
  | n :: ns => by
    show PyData.eqv (.list (PyData.int n :: dI ns)) (.list []) = false
    simp [PyData.eqv, PyData.eqvAll]
theorem dgCells {H : Hp} {d l : Addr} {m n : Int} (h : H d = some (.dK (deckO l m n))) : DGet H d (.str "cells") (some (.ref l)) := by
  have z := DGet.k (k := kC) h
  rw [deck_cells] at z
  exact z
theorem dgMixed {H : Hp} {d l : Addr} {m n : Int} (h : H d = some (.dK (deckO l m n))) : DGet H d (.str "mixed") (some (.int m)) := by
  have z := DGet.k (k := kM) h
  rw [deck_mixed] at z
  exact z
theorem dgDraws {H : Hp} {d l : Addr} {m n : Int} (h : H d = some (.dK (deckO l m n))) : DGet H d (.str "draws") (some (.int n)) := by
  have z := DGet.k (k := kD) h
  rw [deck_draws] at z
  exact z
theorem dpDraws {H : Hp} {d l : Addr} {m n : Int} (k : Int) (h : H d = some (.dK (deckO l m n))) : DPut H d (.str "draws") (.int k) (upd H d (.dK (deckO l m k))) := by
  have z := DPut.k (k := kD) (v := .int k) h (by show 3 < sizeLine; decide)
  rw [deck_put] at z
  exact z
theorem ifT {b : Bool} {A B : Prop} (h : b = true) (a : A) : if b = true then A else B := by
  rw [if_pos h]
  exact a
theorem ifF {b : Bool} {A B : Prop} (h : b = false) (a : B) : if b = true then A else B := by
  rw [h]
  exact iteF a
theorem mod_lo {a b : Int} (h : 0 < b) : 0 ≤ a % b := Int.emod_nonneg a (by omega)
theorem mod_hi {a b : Int} (h : 0 < b) : a % b < b := Int.emod_lt_of_pos a h
end SG

namespace SG
open PySem PySem.Spec PyProof.Rows L2

theorem Kept.lst {K : PySem.W.Frag} {d l : Addr} {H H2 : Hp} {c : Nat} {a : Addr} {xs : List V} (k : Kept d l H H2) (D : Deck H d l c) (hl : a ≠ l) (h : SqL K H a xs) : SqL K H2 a xs := by
  obtain ⟨cs, m, n, h1, h2, _⟩ := D
  rcases h with (h | ⟨o, h⟩) | h
  · exact .inl (.inl (k _ _ h (ne_of h h1 nofun) hl))
  · exact .inl (.inr ⟨o, k _ _ h (ne_of h h1 nofun) hl⟩)
  · exact .inr h
theorem Deck.ne {H : Hp} {d l p : Addr} {c : Nat} (D : Deck H d l c) (h : H p = none) : p ≠ d ∧ p ≠ l := by
  obtain ⟨cs, m, n, h1, h2, _⟩ := D
  exact ⟨(ne_of_none h1 h).symm, (ne_of_none h2 h).symm⟩
theorem wipe1 (σ : L2.St) (s : Nat) (x : Option V) : wipe ((wipe σ [s]).set s x) [s] = wipe σ [s] := by
  show (List.set (List.set (List.set σ s none) s x) s none) = List.set σ s none
  rw [List.set_set, List.set_set]
theorem yesI {A B : Hp → Prop} {σ : L2.St} {H : Hp} (h : A H) : tYes σ H (fun b H4 => if b = true then A H4 else B H4) := by
  show (if (true : Bool) = true then A H else B H)
  rw [if_pos rfl]
  exact h
/-- a list of ints that are drawn, turn by turn -/
theorem lc_draws {d l D : Addr} {c n s : Nat} {te : TE} {σ : L2.St} {H1 : Hp} {Qd : Hp → Prop} {B : Int → Prop} (D0 : Deck H1 d l c) (hD : H1 D = none) (hn : n ≤ 1000)
    (turn : ∀ (i : Nat) (H2 : Hp), i < n → Deck H2 d l (c + i) → Kept d l H1 H2 → ∀ R : VK, (∀ (x : Int) (H3 : Hp), B x → Deck H3 d l (c + i + 1) → Kept d l H2 H3 → R (.int x) H3) → te ((wipe σ [s]).set s (some (.int (0 + i)))) H2 R)
    (done : ∀ (xs : List Int) (H2 : Hp), xs.length = n → (∀ x ∈ xs, B x) → H2 D = some (.lst (xs.map V.int)) → Deck H2 d l (c + n) → Kept d l H1 H2 → Qd H2) :
    ∃ W : Nat → Nat → Hp → Prop, (∃ m, W 0 m (upd H1 D (.lst []))) ∧ ∀ i m H, W i m H →
      ((Itr 0 n).stop i H ∧ Qd H) ∨ ((Itr 0 n).go i H ∧ ∃ Nx : Hp → Prop, (∀ H2, Nx H2 → ∃ m2, m2 < m ∧ W (i + 1) m2 H2) ∧ ∀ x H2, (Itr 0 n).yld i H x H2 → gName s x (wipe σ [s]) H2 fun σ2 H3 => wipe σ2 [s] = wipe σ [s] ∧ tYes σ2 H3 fun b H4 =>
        if b = true then te σ2 H4 fun y H5 => ∃ acc, H5 D = some (.lst acc) ∧ acc.length < sizeLine ∧ Nx (upd H5 D (.lst (acc ++ [y]))) else Nx H4) := by
  obtain ⟨nd, nl⟩ := D0.ne hD
  refine lc_range (fun i H2 => ∃ xs : List Int, xs.length = i ∧ (∀ x ∈ xs, B x) ∧ H2 D = some (.lst (xs.map V.int)) ∧ Deck H2 d l (c + i) ∧ Kept d l H1 H2) ?_ ?_ ?_
  · exact ⟨[], rfl, (fun _ h => absurd h List.not_mem_nil), upd_same, D0.upd hD, .of (same_new hD)⟩
  · rintro i H2 hi ⟨xs, hx, hB, hD2, D2, k2⟩
    refine ⟨wipe1 _ _ _, ?_⟩
    refine yesI ?_
    refine turn i H2 hi D2 k2 _ fun x H3 hb D3 k3 => ⟨xs.map V.int, k3 _ _ hD2 nd nl, ?_, xs ++ [x], by simp [hx], fun y hy => ?_, ?_, ?_, ?_⟩
    · rw [List.length_map, hx]
      exact small1000 (by omega)
    · rcases List.mem_append.mp hy with h | h
      · exact hB y h
      · rw [List.mem_singleton.mp h]; exact hb
    · rw [upd_same, List.map_append]
      rfl
    · obtain ⟨cs, m, k, h1, h2, h3⟩ := D3
      exact ⟨cs, m, k, by rw [upd_ne nd.symm]; exact h1, by rw [upd_ne nl.symm]; exact h2, h3⟩
    · intro b o e h1 h2
      rw [upd_ne (ne_of_none e hD)]
      exact k3 _ _ (k2 _ _ e h1 h2) h1 h2
  · rintro H2 ⟨xs, hx, hB, hD2, D2, k2⟩
    exact done xs H2 hx hB hD2 D2 k2
end SG

namespace SG
open PySem PySem.Spec PyProof.Rows L2

/-- a comprehension over enumerate of a tuple -/
theorem lc_enumT {K : PySem.W.Frag} {a D : Addr} {xs : List V} {g : TG} {tt : TT} {te : TE} {vs : List Nat} {σ : L2.St} {H1 : Hp} {Qd : Hp → Prop} (Pv : Nat → Hp → Prop) (h0 : Pv 0 (upd H1 D (.lst []))) (hl : ∀ i H, i ≤ xs.length → Pv i H → SqT K H a xs)
    (hs : ∀ (i : Nat) (x : V) (H : Hp) (T : Addr), xs[i]? = some x → Pv i H → H T = none → g (.ref T) (wipe σ vs) (upd H T (.tup [.int (i : Nat), x])) fun σ2 H2 => wipe σ2 vs = wipe σ vs ∧ tt σ2 H2 fun b H3 =>
      if b = true then te σ2 H3 fun y H4 => ∃ acc, H4 D = some (.lst acc) ∧ acc.length < sizeLine ∧ Pv (i + 1) (upd H4 D (.lst (acc ++ [y]))) else Pv (i + 1) H3) (hd : ∀ H, Pv xs.length H → Qd H) :
    ∃ W : Nat → Nat → Hp → Prop, (∃ m, W 0 m (upd H1 D (.lst []))) ∧ ∀ i m H, W i m H →
      ((IteT K a).stop i H ∧ Qd H) ∨ ((IteT K a).go i H ∧ ∃ Nx : Hp → Prop, (∀ H2, Nx H2 → ∃ m2, m2 < m ∧ W (i + 1) m2 H2) ∧ ∀ x H2, (IteT K a).yld i H x H2 → g x (wipe σ vs) H2 fun σ2 H3 => wipe σ2 vs = wipe σ vs ∧ tt σ2 H3 fun b H4 =>
        if b = true then te σ2 H4 fun y H5 => ∃ acc, H5 D = some (.lst acc) ∧ acc.length < sizeLine ∧ Nx (upd H5 D (.lst (acc ++ [y]))) else Nx H4) := by
  refine ⟨fun i m H => m = xs.length - i ∧ i ≤ xs.length ∧ Pv i H, ⟨xs.length, by simp, Nat.zero_le _, h0⟩, ?_⟩
  rintro i m H ⟨rfl, hi, p⟩
  have q := hl i H hi p
  rcases Nat.lt_or_eq_of_le hi with hlt | rfl
  · refine .inr ⟨⟨xs, xs[i], q, by simp [hlt]⟩, Pv (i + 1), fun H2 p2 => ⟨xs.length - (i + 1), by omega, rfl, hlt, p2⟩, ?_⟩
    rintro x H2 ⟨T, x, rfl, hT, rfl, hx⟩
    exact hs i x H T (hx xs q) p hT
  · exact .inl ⟨⟨xs, q, Nat.le_refl _⟩, hd H p⟩
theorem wipe2 (σ : L2.St) (s1 s2 : Nat) (x y : Option V) : wipe (((wipe σ [s1, s2]).set s1 x).set s2 y) [s1, s2] = wipe σ [s1, s2] := by
  show List.set (List.set (List.set (List.set (List.set (List.set σ s2 none) s1 none) s1 x) s2 y) s2 none) s1 none = List.set (List.set σ s2 none) s1 none
  by_cases e : s1 = s2
  · subst e
    simp [List.set_set]
  · have z1 : List.set (List.set (List.set (List.set σ s2 none) s1 none) s1 x) s2 y = List.set (List.set (List.set σ s2 none) s1 x) s2 y := by rw [List.set_set]
    rw [z1]
    refine List.ext_getElem? fun i => ?_
    simp only [List.getElem?_set, List.length_set]
    split <;> split <;> rfl
  -- rw [List.set_set, List.set_comm x none e, List.set_set, List.set_comm none none (Ne.symm e), List.set_set]
theorem same_upd_of {H H2 : Hp} {p : Addr} {o : HO} (s : Same H H2) (h : H p = none) : Same H (upd H2 p o) := fun b x e => by
  rw [upd_ne (ne_of_none e h)]
  exact s _ _ e
/-- .. whose items are told ahead, and that makes new objects alone -/
theorem lc_enumS {K : PySem.W.Frag} {a D : Addr} {xs ys : List V} {te : TE} {s1 s2 : Nat} {σ : L2.St} {H1 : Hp} {Qd : Hp → Prop} (hn : xs.length ≤ 1000) (hD : H1 D = none) (hS : SqT K H1 a xs) (hy : ys.length = xs.length)
    (turn : ∀ (i : Nat) (x y : V) (H2 : Hp), xs[i]? = some x → ys[i]? = some y → Same H1 H2 → ∀ R : VK, (∀ H3, Same H2 H3 → R y H3) → te (((wipe σ [s1, s2]).set s1 (some (.int (i : Nat)))).set s2 (some x)) H2 R)
    (done : ∀ H2, Same H1 H2 → H2 D = some (.lst ys) → Qd H2) :
    ∃ W : Nat → Nat → Hp → Prop, (∃ m, W 0 m (upd H1 D (.lst []))) ∧ ∀ i m H, W i m H →
      ((IteT K a).stop i H ∧ Qd H) ∨ ((IteT K a).go i H ∧ ∃ Nx : Hp → Prop, (∀ H2, Nx H2 → ∃ m2, m2 < m ∧ W (i + 1) m2 H2) ∧ ∀ x H2, (IteT K a).yld i H x H2 → gTup K 2 (gCons (gName s1) (gCons (gName s2) gNil)) x (wipe σ [s1, s2]) H2 fun σ2 H3 => wipe σ2 [s1, s2] = wipe σ [s1, s2] ∧ tYes σ2 H3 fun b H4 =>
        if b = true then te σ2 H4 fun y H5 => ∃ acc, H5 D = some (.lst acc) ∧ acc.length < sizeLine ∧ Nx (upd H5 D (.lst (acc ++ [y]))) else Nx H4) := by
  refine lc_enumT (xs := xs) (fun i H2 => Same H1 H2 ∧ H2 D = some (.lst (ys.take i))) ⟨same_new hD, by rw [upd_same, List.take_zero]⟩ (fun i H2 _ p => sameT p.1 hS) ?_ ?_
  · rintro i x H2 T hx ⟨s, h2⟩ hT
    have hi : i < ys.length := by rw [hy]; exact (List.getElem?_eq_some_iff.mp hx).1
    have hyi : ys[i]? = some ys[i] := List.getElem?_eq_getElem hi
    refine ⟨T, _, rfl, .inl (.inl upd_same), rfl, _, _, rfl, _, _, rfl, rfl, wipe2 _ _ _ _ _, ?_⟩
    refine yesI ?_
    have s1 : Same H1 (upd H2 T (.tup [.int (i : Nat), x])) := s.trans (same_new hT)
    have hD2 : (upd H2 T (.tup [.int (i : Nat), x])) D = some (.lst (ys.take i)) := same_new hT _ _ h2
    refine turn i x _ _ hx hyi s1 _ fun H3 s3 => ⟨ys.take i, s3 _ _ hD2, ?_, same_upd_of (s1.trans s3) hD, ?_⟩
    · rw [List.length_take]
      exact small1000 (by omega)
    · rw [upd_same, List.take_add_one, hyi]
      rfl
  · rintro H2 ⟨s, h2⟩
    refine done H2 s ?_
    rw [h2, ← hy, List.take_length]
end SG

namespace SG
open PySem PySem.Spec PyProof.Rows L2
/-- a comprehension over a tuple, whose items are told ahead, and that makes new objects alone -/
theorem lc_tupS {K : PySem.W.Frag} {a D : Addr} {xs ys : List V} {te : TE} {s : Nat} {σ : L2.St} {H1 : Hp} {Qd : Hp → Prop} (hn : xs.length ≤ 1000) (hD : H1 D = none) (hS : SqT K H1 a xs) (hy : ys.length = xs.length)
    (turn : ∀ (i : Nat) (x y : V) (H2 : Hp), xs[i]? = some x → ys[i]? = some y → Same H1 H2 → ∀ R : VK, (∀ H3, Same H2 H3 → R y H3) → te ((wipe σ [s]).set s (some x)) H2 R)
    (done : ∀ H2, Same H1 H2 → H2 D = some (.lst ys) → Qd H2) :
    ∃ W : Nat → Nat → Hp → Prop, (∃ m, W 0 m (upd H1 D (.lst []))) ∧ ∀ i m H, W i m H →
      ((Itt K a).stop i H ∧ Qd H) ∨ ((Itt K a).go i H ∧ ∃ Nx : Hp → Prop, (∀ H2, Nx H2 → ∃ m2, m2 < m ∧ W (i + 1) m2 H2) ∧ ∀ x H2, (Itt K a).yld i H x H2 → gName s x (wipe σ [s]) H2 fun σ2 H3 => wipe σ2 [s] = wipe σ [s] ∧ tYes σ2 H3 fun b H4 =>
        if b = true then te σ2 H4 fun y H5 => ∃ acc, H5 D = some (.lst acc) ∧ acc.length < sizeLine ∧ Nx (upd H5 D (.lst (acc ++ [y]))) else Nx H4) := by
  refine lc_tup (xs := xs) (fun i H2 => Same H1 H2 ∧ H2 D = some (.lst (ys.take i))) ⟨same_new hD, by rw [upd_same, List.take_zero]⟩ (fun i H2 _ p => sameT p.1 hS) ?_ ?_
  · rintro i x H2 hx ⟨sm, h2⟩
    have hi : i < ys.length := by rw [hy]; exact (List.getElem?_eq_some_iff.mp hx).1
    have hyi : ys[i]? = some ys[i] := List.getElem?_eq_getElem hi
    refine ⟨wipe1 _ _ _, ?_⟩
    refine yesI ?_
    refine turn i x _ _ hx hyi sm _ fun H3 s3 => ⟨ys.take i, s3 _ _ h2, ?_, same_upd_of (sm.trans s3) hD, ?_⟩
    · rw [List.length_take]
      exact small1000 (by omega)
    · rw [upd_same, List.take_add_one, hyi]
      rfl
  · rintro H2 ⟨sm, h2⟩
    refine done H2 sm ?_
    rw [h2, ← hy, List.take_length]
/-- the same over a list -/
theorem lc_listS {K : PySem.W.Frag} {a D : Addr} {xs ys : List V} {te : TE} {s : Nat} {σ : L2.St} {H1 : Hp} {Qd : Hp → Prop} (hn : xs.length ≤ 1000) (hD : H1 D = none) (hS : SqL K H1 a xs) (hy : ys.length = xs.length)
    (turn : ∀ (i : Nat) (x y : V) (H2 : Hp), xs[i]? = some x → ys[i]? = some y → Same H1 H2 → ∀ R : VK, (∀ H3, Same H2 H3 → R y H3) → te ((wipe σ [s]).set s (some x)) H2 R)
    (done : ∀ H2, Same H1 H2 → H2 D = some (.lst ys) → Qd H2) :
    ∃ W : Nat → Nat → Hp → Prop, (∃ m, W 0 m (upd H1 D (.lst []))) ∧ ∀ i m H, W i m H →
      ((Itl K a).stop i H ∧ Qd H) ∨ ((Itl K a).go i H ∧ ∃ Nx : Hp → Prop, (∀ H2, Nx H2 → ∃ m2, m2 < m ∧ W (i + 1) m2 H2) ∧ ∀ x H2, (Itl K a).yld i H x H2 → gName s x (wipe σ [s]) H2 fun σ2 H3 => wipe σ2 [s] = wipe σ [s] ∧ tYes σ2 H3 fun b H4 =>
        if b = true then te σ2 H4 fun y H5 => ∃ acc, H5 D = some (.lst acc) ∧ acc.length < sizeLine ∧ Nx (upd H5 D (.lst (acc ++ [y]))) else Nx H4) := by
  refine lc_list (xs := xs) (fun i H2 => Same H1 H2 ∧ H2 D = some (.lst (ys.take i))) ⟨same_new hD, by rw [upd_same, List.take_zero]⟩ (fun i H2 _ p => p.1.seq hS) ?_ ?_
  · rintro i x H2 hx ⟨sm, h2⟩
    have hi : i < ys.length := by rw [hy]; exact (List.getElem?_eq_some_iff.mp hx).1
    have hyi : ys[i]? = some ys[i] := List.getElem?_eq_getElem hi
    refine ⟨wipe1 _ _ _, ?_⟩
    refine yesI ?_
    refine turn i x _ _ hx hyi sm _ fun H3 s3 => ⟨ys.take i, s3 _ _ h2, ?_, same_upd_of (sm.trans s3) hD, ?_⟩
    · rw [List.length_take]
      exact small1000 (by omega)
    · rw [upd_same, List.take_add_one, hyi]
      rfl
  · rintro H2 ⟨sm, h2⟩
    refine done H2 sm ?_
    rw [h2, ← hy, List.take_length]
/-- the same over a list, its target a pair -/
theorem lc_listP {K : PySem.W.Frag} {a D : Addr} {xs ys : List V} {te : TE} {s1 s2 : Nat} {σ : L2.St} {H1 : Hp} {Qd : Hp → Prop} (hn : xs.length ≤ 1000) (hD : H1 D = none) (hS : SqL K H1 a xs) (hy : ys.length = xs.length)
    (turn : ∀ (i : Nat) (x y : V) (H2 : Hp), xs[i]? = some x → ys[i]? = some y → Same H1 H2 → ∃ p u v, x = .ref p ∧ SqT K H2 p [u, v] ∧ ∀ R : VK, (∀ H3, Same H2 H3 → R y H3) → te (((wipe σ [s1, s2]).set s1 (some u)).set s2 (some v)) H2 R)
    (done : ∀ H2, Same H1 H2 → H2 D = some (.lst ys) → Qd H2) :
    ∃ W : Nat → Nat → Hp → Prop, (∃ m, W 0 m (upd H1 D (.lst []))) ∧ ∀ i m H, W i m H →
      ((Itl K a).stop i H ∧ Qd H) ∨ ((Itl K a).go i H ∧ ∃ Nx : Hp → Prop, (∀ H2, Nx H2 → ∃ m2, m2 < m ∧ W (i + 1) m2 H2) ∧ ∀ x H2, (Itl K a).yld i H x H2 → gTup K 2 (gCons (gName s1) (gCons (gName s2) gNil)) x (wipe σ [s1, s2]) H2 fun σ2 H3 => wipe σ2 [s1, s2] = wipe σ [s1, s2] ∧ tYes σ2 H3 fun b H4 =>
        if b = true then te σ2 H4 fun y H5 => ∃ acc, H5 D = some (.lst acc) ∧ acc.length < sizeLine ∧ Nx (upd H5 D (.lst (acc ++ [y]))) else Nx H4) := by
  refine lc_list (xs := xs) (fun i H2 => Same H1 H2 ∧ H2 D = some (.lst (ys.take i))) ⟨same_new hD, by rw [upd_same, List.take_zero]⟩ (fun i H2 _ p => p.1.seq hS) ?_ ?_
  · rintro i x H2 hx ⟨sm, h2⟩
    have hi : i < ys.length := by rw [hy]; exact (List.getElem?_eq_some_iff.mp hx).1
    have hyi : ys[i]? = some ys[i] := List.getElem?_eq_getElem hi
    obtain ⟨p, u, v, rfl, hp, tn⟩ := turn i x _ _ hx hyi sm
    refine ⟨p, _, rfl, hp, rfl, _, _, rfl, _, _, rfl, rfl, wipe2 _ _ _ _ _, ?_⟩
    refine yesI ?_
    refine tn _ fun H3 s3 => ⟨ys.take i, s3 _ _ h2, ?_, same_upd_of (sm.trans s3) hD, ?_⟩
    · rw [List.length_take]
      exact small1000 (by omega)
    · rw [upd_same, List.take_add_one, hyi]
      rfl
  · rintro H2 ⟨sm, h2⟩
    refine done H2 sm ?_
    rw [h2, ← hy, List.take_length]
end SG

/-! The rules that speak of the written part, with it as a letter: so they serve in a comprehension too. -/
namespace SG
open PySem PySem.Spec PyProof.Rows L2
section
variable {X : Cx} {K : PySem.W.Frag}
def rLenS (K : PySem.W.Frag) : List V → Hp → VK → Prop := fun xs H Q => ∃ p ys, xs = [.ref p] ∧ (SqL K H p ys ∨ SqT K H p ys) ∧ Q (.int ys.length) H
def rListOf (K : PySem.W.Frag) : List V → Hp → VK → Prop := fun xs H Q => ∃ p ys, xs = [.ref p] ∧ (SqL K H p ys ∨ SqT K H p ys) ∧ ∀ l, H l = none → Q (.ref l) (upd H l (.lst ys))
def rTupOf (K : PySem.W.Frag) : List V → Hp → VK → Prop := fun xs H Q => ∃ p ys, xs = [.ref p] ∧ ((SqL K H p ys ∧ ∀ l, H l = none → Q (.ref l) (upd H l (.tup ys))) ∨ (SqT K H p ys ∧ Q (.ref p) H))
theorem k_len (e : X.K = K := by rfl) : CallR X (.builtin "len") (rLenS K) := e ▸ call_len_seq
theorem k_listOf (e : X.K = K := by rfl) : CallR X (.type "list") (rListOf K) := e ▸ call_list_of
theorem k_tupOf (e : X.K = K := by rfl) : CallR X (.type "tuple") (rTupOf K) := e ▸ call_tuple_of
theorem k_sum (hc : X.calm = true) (e : X.K = K := by rfl) : CallR X (.builtin "sum") (rSum K) := e ▸ cr_sum hc
theorem k_all (hc : X.calm = true) (e : X.K = K := by rfl) : CallR X (.builtin "all") (rAll K) := e ▸ cr_all hc
theorem k_any (hc : X.calm = true) (e : X.K = K := by rfl) : CallR X (.builtin "any") (rAny K) := e ▸ cr_any hc
theorem k_isi (e : X.K = K := by rfl) : CallR X (.builtin "isinstance") (rIsi K) := e ▸ call_isi
theorem k_repr {k : Nat} (hn : X.base.NoDigits) (hg : X.A.guards = some []) (hr : Room k X.A) (e : X.K = K := by rfl) : CallR X (.builtin "repr") (rRepr K) := e ▸ call_reprG hn hg hr
theorem k_ixL (e : X.K = K := by rfl) : IxR X (rIxL K) := e ▸ ix_list
theorem k_ixT (e : X.K = K := by rfl) : IxR X (rIxT K) := e ▸ ix_tup
theorem k_ix (e : X.K = K := by rfl) : IxR X (rIx K) := e ▸ ix_seq
theorem k_slL (e : X.K = K := by rfl) : SlR X (rSlL K) := e ▸ sl_list
theorem k_slT (e : X.K = K := by rfl) : SlR X (rSlA K) := e ▸ sl_tupA
theorem k_catT (e : X.K = K := by rfl) : OpR X (binaryOp .Add) (rCatA K) := e ▸ op_catA
theorem k_eqD (hu : X.A.units + 64 < cLine) (e : X.K = K := by rfl) : OpR X (compareOp .Eq) (rEqD K) := e ▸ op_eqD hu
theorem k_neD (hu : X.A.units + 64 < cLine) (e : X.K = K := by rfl) : OpR X (compareOp .NotEq) (rNeD K) := e ▸ op_neD hu
theorem k_rev {x : Expr} {k} {p1 p2 p3 pos : Pos} {te : TE} (he : PE X x te) (e : X.K = K := by rfl) : PE X (.Subscript x (.Slice none none (some (.UnaryOp .USub (.Constant (.int 1) k p1) p2)) p3) pos) (tRevL K te) := e ▸ pe_revL he
theorem k_tg {es : List Expr} {k : Nat} {t : TGs} {n : Nat} {pos : Pos} (hc : X.calm = true) (h : PGs X es t) (hn : (assignEach es X.env).length = n := by rfl) (hst : (assignEach es X.env).findIdx? (·.1) = none := by rfl) (e : X.K = K := by rfl) : PG X (.Tuple es k pos) (gTup K n t) := e ▸ pg_tup hc h hn hst
theorem k_enumT {x : Expr} {ta : TA} {p pos tpos : Pos} {elts : List Expr} {kk : Nat} (hg : Gl X "enumerate") (hm : X.mg "enumerate" = none) (ha : PA X [x] ta) (hs : starEach [x] X.env = [(false, eval x X.env)] := by rfl) (e : X.K = K := by rfl) :
    PI X (.Tuple elts kk tpos) (.Call (.Name "enumerate" p) [x] [] pos) (iEnumT K ta) := e ▸ pi_enumT hg hm ha hs
theorem k_enum {x : Expr} {ta : TA} {p pos tpos : Pos} {elts : List Expr} {kk : Nat} (hg : Gl X "enumerate") (hm : X.mg "enumerate" = none) (ha : PA X [x] ta) (hs : starEach [x] X.env = [(false, eval x X.env)] := by rfl) (e : X.K = K := by rfl) :
    PI X (.Tuple elts kk tpos) (.Call (.Name "enumerate" p) [x] [] pos) (iEnum K ta) := e ▸ pi_enum hg hm ha hs
end
end SG

/-! Data at any depth, and the empty dict: its kind, lengths, items. -/
namespace SG
open PySem PySem.Spec PyProof.Rows L2
/-- data, or the empty dict -/
def Dq (K : PySem.W.Frag) (H : Hp) (x : V) (d : PyData) : Prop := Dp K H x d ∨ (d = .dict [] ∧ ∃ a, x = .ref a ∧ H a = some (.dK []))
def kindOf : PyData → String
  | .none => "NoneType"
  | .bool _ => "bool"
  | .int _ => "int"
  | .str _ => "str"
  | .list _ => "list"
  | .tuple _ => "tuple"
  | .dict _ => "dict"
section
variable {K : PySem.W.Frag} {H H2 : Hp} {x : V} {d : PyData}
theorem dp_ty (h : Dp K H x d) : TyX K H x (.type (kindOf d)) := by
  cases h with
  | non => exact .base .non
  | bl b => exact .base (.bl b)
  | int i => exact .base (.int i)
  | str s => exact .base (.str s)
  | lst s _ =>
    rcases s with (s | ⟨o, s⟩) | ⟨o, vs, n, s, c, _⟩
    · exact .base (.lst s)
    · exact .base (.frz s)
    · exact .kList s c
  | tup s _ =>
    rcases s with (s | ⟨o, s⟩) | ⟨o, vs, n, s, c, _⟩
    · exact .base (.tup s)
    · exact .fTuple s
    · exact .kTuple s c
theorem dq_ty (h : Dq K H x d) : TyX K H x (.type (kindOf d)) := by
  rcases h with h | ⟨rfl, a, rfl, h⟩
  · exact dp_ty h
  · exact .base (.dK h)
mutual
theorem dp_same (s : Same H H2) : ∀ {x : V} {d : PyData}, Dp K H x d → Dp K H2 x d
  | _, _, .non => .non
  | _, _, .bl b => .bl b
  | _, _, .int i => .int i
  | _, _, .str t => .str t
  | _, _, .lst q a => .lst (s.seq q) (dpA_same s a)
  | _, _, .tup q a => .tup (sameT s q) (dpA_same s a)
theorem dpA_same (s : Same H H2) : ∀ {xs : List V} {ds : List PyData}, DpAll K H xs ds → DpAll K H2 xs ds
  | _, _, .nil => .nil
  | _, _, .cons a b => .cons (dp_same s a) (dpA_same s b)
end
theorem dq_same (s : Same H H2) (h : Dq K H x d) : Dq K H2 x d := by
  rcases h with h | ⟨e, a, e2, h⟩
  · exact .inl (dp_same s h)
  · exact .inr ⟨e, a, e2, s _ _ h⟩
theorem dpA_len : ∀ {xs : List V} {ds : List PyData}, DpAll K H xs ds → xs.length = ds.length
  | _, _, .nil => rfl
  | _, _, .cons _ b => congrArg (· + 1) (dpA_len b)
theorem dpA_get : ∀ {xs : List V} {ds : List PyData} {i : Nat} {x : V}, DpAll K H xs ds → xs[i]? = some x → ∃ d, ds[i]? = some d ∧ Dp K H x d
  | _, _, _, _, .nil, e => by simp at e
  | _, _, 0, _, .cons a b, e => by
    simp at e
    subst e
    exact ⟨_, rfl, a⟩
  | _, _, i + 1, x, .cons a b, e => by
    obtain ⟨d, h1, h2⟩ := dpA_get (i := i) (x := x) b (by simpa using e)
    exact ⟨d, by simpa using h1, h2⟩
theorem dpA_app : ∀ {xs ys : List V} {ds es : List PyData}, DpAll K H xs ds → DpAll K H ys es → DpAll K H (xs ++ ys) (ds ++ es)
  | _, _, _, _, .nil, h => h
  | _, _, _, _, .cons a b, h => .cons a (dpA_app b h)
/-- what is no tuple has no tuple's kind -/
theorem dq_tuple {ds : List PyData} (h : Dq K H x (.tuple ds)) : ∃ a xs, x = .ref a ∧ SqT K H a xs ∧ DpAll K H xs ds := by
  rcases h with h | ⟨e, _⟩
  · cases h with
    | tup q a => exact ⟨_, _, rfl, q, a⟩
  · cases e
def isTup : PyData → Bool
  | .tuple _ => true
  | _ => false
def isInt : PyData → Bool
  | .int _ => true
  | _ => false
theorem isi_tuple (h : Dq K H x d) : PySem.W.kitOne K (.type (kindOf d)) (.type "tuple") = some (isTup d) := by
  cases d with
  | none => exact kit_ty (show kitB "NoneType" "tuple" = some false by decide +kernel)
  | bool _ => exact kit_ty (show kitB "bool" "tuple" = some false by decide +kernel)
  | int _ => exact kit_ty (show kitB "int" "tuple" = some false by decide +kernel)
  | str _ => exact kit_ty (show kitB "str" "tuple" = some false by decide +kernel)
  | list _ => exact kit_ty (show kitB "list" "tuple" = some false by decide +kernel)
  | tuple _ => exact kit_ty (show kitB "tuple" "tuple" = some true by decide +kernel)
  | dict _ => exact kit_ty (show kitB "dict" "tuple" = some false by decide +kernel)
def isIntLike : PyData → Bool
  | .int _ => true
  | .bool _ => true
  | _ => false
def isBool : PyData → Bool
  | .bool _ => true
  | _ => false
theorem isi_int (h : Dq K H x d) : PySem.W.kitOne K (.type (kindOf d)) (.type "int") = some (isIntLike d) := by
  cases d with
  | none => exact kit_ty (show kitB "NoneType" "int" = some false by decide +kernel)
  | bool _ => exact kit_ty (show kitB "bool" "int" = some true by decide +kernel)
  | int _ => exact kit_ty (show kitB "int" "int" = some true by decide +kernel)
  | str _ => exact kit_ty (show kitB "str" "int" = some false by decide +kernel)
  | list _ => exact kit_ty (show kitB "list" "int" = some false by decide +kernel)
  | tuple _ => exact kit_ty (show kitB "tuple" "int" = some false by decide +kernel)
  | dict _ => exact kit_ty (show kitB "dict" "int" = some false by decide +kernel)
theorem isi_bool (h : Dq K H x d) : PySem.W.kitOne K (.type (kindOf d)) (.type "bool") = some (isBool d) := by
  cases d with
  | none => exact kit_ty (show kitB "NoneType" "bool" = some false by decide +kernel)
  | bool _ => exact kit_ty (show kitB "bool" "bool" = some true by decide +kernel)
  | int _ => exact kit_ty (show kitB "int" "bool" = some false by decide +kernel)
  | str _ => exact kit_ty (show kitB "str" "bool" = some false by decide +kernel)
  | list _ => exact kit_ty (show kitB "list" "bool" = some false by decide +kernel)
  | tuple _ => exact kit_ty (show kitB "tuple" "bool" = some false by decide +kernel)
  | dict _ => exact kit_ty (show kitB "dict" "bool" = some false by decide +kernel)
end
/-! ### two tuples put together, a slice of a tuple: whatever object it is -/
theorem cat3 {K : PySem.W.Frag} {C : V → Hp → Prop} {H : Hp} {a b : Addr} {xs ys : List V} (hA : SqT K H a xs) (hB : SqT K H b ys) (h : ∀ (x : Addr) (H3 : Hp), Same H H3 → SqT K H3 x (xs ++ ys) → C (.ref x) H3) :
    (xs = [] → C (.ref b) H) ∧ (xs ≠ [] → ys = [] → C (.ref a) H) ∧ (xs ≠ [] → ys ≠ [] → ∀ p, H p = none → C (.ref p) (upd H p (.tup (xs ++ ys)))) := by
  refine ⟨fun e => ?_, fun _ e => ?_, fun _ _ p np => h p _ (same_new np) (.inl (.inl upd_same))⟩
  · subst e
    exact h b H (Same.refl H) hB
  · subst e
    refine h a H (Same.refl H) ?_
    rw [List.append_nil]
    exact hA
def rCatU (K : PySem.W.Frag) : R2 := fun x y H Q => ∃ a b xs ys, x = .ref a ∧ y = .ref b ∧ SqT K H a xs ∧ SqT K H b ys ∧ xs.length + ys.length ≤ sizeLine ∧ ∀ (z : Addr) (H3 : Hp), Same H H3 → SqT K H3 z (xs ++ ys) → Q (.ref z) H3
theorem k_catU {X : Cx} {K : PySem.W.Frag} (e : X.K = K := by rfl) : OpR X (binaryOp .Add) (rCatU K) := by
  subst e
  intro pins s σ H x y v u Q I rx ry h
  obtain ⟨a, b, xs, ys, rfl, rfl, hA, hB, hl, q⟩ := h
  exact op_catA pins s σ H _ _ v u Q I rx ry ⟨a, b, xs, ys, rfl, rfl, hA, hB, hl, cat3 hA hB q⟩
def rSlU (K : PySem.W.Frag) : V → Option Int → Option Int → Hp → VK → Prop := fun x lo hi H Q => ∃ a xs, x = .ref a ∧ SqT K H a xs ∧ ∀ (z : Addr) (H3 : Hp), Same H H3 → SqT K H3 z (cutV xs lo hi) → Q (.ref z) H3
theorem k_slU {X : Cx} {K : PySem.W.Frag} (e : X.K = K := by rfl) : SlR X (rSlU K) := by
  subst e
  intro pins s σ H x v vl vu lo hi sl Q I rx hs pl pu h
  obtain ⟨a, xs, rfl, hA, q⟩ := h
  refine sl_tupA pins s σ H _ v vl vu lo hi sl Q I rx hs pl pu ⟨a, xs, rfl, hA, fun z => q a H (Same.refl H) ?_, fun _ p np => q p _ (same_new np) (.inl (.inl upd_same))⟩
  unfold cutV
  rw [z.1, z.2, Nat.sub_zero, List.drop_zero, List.take_length]
  exact hA
def isRuleD : PyData → Bool
  | .tuple [.tuple xs, .tuple ys] => xs.length == ys.length && (xs ++ ys).all isInt
  | _ => false
end SG

/-! Data that can be told and compared. -/
namespace SG
open PySem PySem.Spec PyProof.Rows L2
structure OkD (d : PyData) : Prop where
  lay : d.canLay0 = true
  dep : d.depth ≤ 50
  tell : tellable d = true
  short : d.leavesShort 4302 = true
  bulk : d.bulk ≤ 3000
structure OkA (ds : List PyData) : Prop where
  lay : PyData.canLayAll0 ds = true
  dep : PyData.depthAll ds ≤ 49
  tell : tellableAll ds = true
  short : PyData.leavesShortAll 4302 ds = true
theorem OkD.shown {d : PyData} (h : OkD d) : d.shown.length ≤ sizeLine := by
  have z := PyData.shown_le_bulk 4302 (by decide) d h.short
  have z2 : (4302 + 2) * d.bulk ≤ 4304 * 3000 := Nat.mul_le_mul (Nat.le_refl _) h.bulk
  rw [sizeLine_eq]
  omega
theorem OkA.tuple {ds : List PyData} (h : OkA ds) (b : PyData.bulkAll ds ≤ 3000) : OkD (.tuple ds) :=
  ⟨by simpa only [PyData.canLay0] using h.lay, by simp only [PyData.depth]; have := h.dep; omega, by simpa only [tellable] using h.tell, by simpa only [PyData.leavesShort] using h.short, by simpa only [PyData.bulk] using b⟩
theorem OkA.list {ds : List PyData} (h : OkA ds) (b : PyData.bulkAll ds ≤ 3000) : OkD (.list ds) :=
  ⟨by simpa only [PyData.canLay0] using h.lay, by simp only [PyData.depth]; have := h.dep; omega, by simpa only [tellable] using h.tell, by simpa only [PyData.leavesShort] using h.short, by simpa only [PyData.bulk] using b⟩
theorem OkA.nil : OkA [] := ⟨by simp [PyData.canLayAll0], by simp [PyData.depthAll], by simp [tellableAll], by simp [PyData.leavesShortAll]⟩
theorem OkA.cons {d : PyData} {ds : List PyData} (h : OkD d) (hd : d.depth ≤ 49) (t : OkA ds) : OkA (d :: ds) :=
  ⟨by simp only [PyData.canLayAll0, h.lay, t.lay, Bool.and_self], by simp only [PyData.depthAll]; have := t.dep; omega, by simp only [tellableAll, h.tell, t.tell, Bool.and_self], by simp only [PyData.leavesShortAll, h.short, t.short, Bool.and_self]⟩
theorem OkD.int {i : Int} (h : i.natAbs < 10 ^ 4300) : OkD (.int i) := by
  refine ⟨by simp only [PyData.canLay0], by simp only [PyData.depth]; omega, ?_, ?_, by simp only [PyData.bulk]; omega⟩
  · simp only [tellable]
    exact decide_eq_true h
  · have e := int_text_length_le10 (k := 4300) (by decide) h
    simp only [PyData.leavesShort]
    refine decide_eq_true ?_
    show (Str.ofString (toString i)).length ≤ 4302
    rw [PySem.ofString_length]
    omega
theorem okA_ints : ∀ {ns : List Int}, (∀ n ∈ ns, n.natAbs < 10 ^ 4300) → OkA (dI ns)
  | [], _ => .nil
  | n :: ns, h => .cons (.int (h n List.mem_cons_self)) (by simp only [PyData.depth]; omega) (okA_ints fun m hm => h m (List.mem_cons_of_mem _ hm))
theorem bulk_ints : ∀ ns : List Int, PyData.bulkAll (dI ns) = ns.length
  | [] => by simp [dI, PyData.bulkAll]
  | n :: ns => by
    have ih := bulk_ints ns
    show PyData.bulkAll (PyData.int n :: dI ns) = ns.length + 1
    simp only [PyData.bulkAll, PyData.bulk, ih]
    omega
end SG
namespace SG
open PySem PySem.Spec PyProof.Rows L2
theorem canLay_mem : ∀ {ds : List PyData} {d : PyData}, PyData.canLayAll0 ds = true → d ∈ ds → d.canLay0 = true
  | x :: xs, d, h, m => by
    have h2 : x.canLay0 = true ∧ PyData.canLayAll0 xs = true := by simpa only [PyData.canLayAll0, Bool.and_eq_true] using h
    rcases List.mem_cons.mp m with e | m
    · rw [e]; exact h2.1
    · exact canLay_mem h2.2 m
theorem canLay_sub : ∀ {es ds : List PyData}, PyData.canLayAll0 ds = true → (∀ e ∈ es, e ∈ ds) → PyData.canLayAll0 es = true
  | [], _, _, _ => by simp only [PyData.canLayAll0]
  | e :: es, ds, h, s => by
    simp only [PyData.canLayAll0, canLay_mem h (s e List.mem_cons_self), canLay_sub (es := es) h fun x m => s x (List.mem_cons_of_mem _ m), Bool.and_self]
theorem depth_mem : ∀ {ds : List PyData} {d : PyData}, d ∈ ds → d.depth ≤ PyData.depthAll ds
  | x :: xs, d, m => by
    simp only [PyData.depthAll]
    rcases List.mem_cons.mp m with e | m
    · rw [e]; exact Nat.le_max_left _ _
    · exact Nat.le_trans (depth_mem m) (Nat.le_max_right _ _)
theorem depth_sub : ∀ {es ds : List PyData}, (∀ e ∈ es, e ∈ ds) → PyData.depthAll es ≤ PyData.depthAll ds
  | [], _, _ => by simp only [PyData.depthAll]; omega
  | e :: es, ds, s => by
    simp only [PyData.depthAll]
    exact Nat.max_le.mpr ⟨depth_mem (s e List.mem_cons_self), depth_sub fun x m => s x (List.mem_cons_of_mem _ m)⟩
theorem shaped_sub {es ds : List PyData} (h1 : PyData.canLayAll0 ds = true) (h2 : PyData.depthAll ds ≤ 60) (s : ∀ e ∈ es, e ∈ ds) : SeqAt.shaped (.list es) = true := by
  have a := canLay_sub h1 s
  have b := depth_sub s
  simp only [SeqAt.shaped, PyData.canLay0, PyData.depth, a, Bool.true_and]
  exact decide_eq_true (by omega)
theorem eqv_nil : ∀ ds : List PyData, PyData.eqv (.list ds) (.list []) = ds.isEmpty
  | [] => by simp [PyData.eqv, PyData.eqvAll]
  | d :: ds => by simp [PyData.eqv, PyData.eqvAll]
/-- a comprehension over a tuple of data that keeps those that p takes -/
theorem lc_tupF {K : PySem.W.Frag} {a D : Addr} {xs : List V} {ds : List PyData} {tt : TT} {s : Nat} {σ : L2.St} {H1 : Hp} {Qd : Hp → Prop} (p : PyData → Bool) (hn : xs.length ≤ 1000) (hD : H1 D = none) (hS : SqT K H1 a xs) (hX : DpAll K H1 xs ds) (hs : s < σ.length)
    (turn : ∀ (x : V) (d : PyData) (H2 : Hp), d ∈ ds → Dp K H2 x d → ∀ R : Bool → Hp → Prop, R (p d) H2 → tt ((wipe σ [s]).set s (some x)) H2 R)
    (done : ∀ (ys : List V) (H2 : Hp), Same H1 H2 → H2 D = some (.lst ys) → DpAll K H1 ys (ds.filter p) → Qd H2) :
    ∃ W : Nat → Nat → Hp → Prop, (∃ m, W 0 m (upd H1 D (.lst []))) ∧ ∀ i m H, W i m H →
      ((Itt K a).stop i H ∧ Qd H) ∨ ((Itt K a).go i H ∧ ∃ Nx : Hp → Prop, (∀ H2, Nx H2 → ∃ m2, m2 < m ∧ W (i + 1) m2 H2) ∧ ∀ x H2, (Itt K a).yld i H x H2 → gName s x (wipe σ [s]) H2 fun σ2 H3 => wipe σ2 [s] = wipe σ [s] ∧ tt σ2 H3 fun b H4 =>
        if b = true then tVar s σ2 H4 fun y H5 => ∃ acc, H5 D = some (.lst acc) ∧ acc.length < sizeLine ∧ Nx (upd H5 D (.lst (acc ++ [y]))) else Nx H4) := by
  refine lc_tup (xs := xs) (fun i H2 => Same H1 H2 ∧ ∃ ys, H2 D = some (.lst ys) ∧ DpAll K H1 ys ((ds.take i).filter p) ∧ ys.length ≤ i) ⟨same_new hD, [], upd_same, by simpa using DpAll.nil, Nat.le_refl _⟩ (fun i H2 _ q => sameT q.1 hS) ?_ ?_
  · rintro i x H2 hx ⟨sm, ys, h2, hY, hl⟩
    obtain ⟨d, h1, h3⟩ := dpA_get hX hx
    have hi : i < xs.length := (List.getElem?_eq_some_iff.mp hx).1
    have e1 : (ds.take (i + 1)).filter p = (ds.take i).filter p ++ (if p d = true then [d] else []) := by
      rw [List.take_add_one, h1]
      show ((ds.take i) ++ [d]).filter p = _
      rw [List.filter_append]
      congr 1
      by_cases e : p d = true <;> simp [e]
    refine ⟨wipe1 _ _ _, ?_⟩
    refine turn x d H2 (List.mem_of_getElem? h1) (dp_same sm h3) _ ?_
    by_cases e : p d = true
    · refine ifT e ⟨x, ?_, ys, h2, small1000 (by omega), same_upd_of sm hD, ys ++ [x], upd_same, ?_, by rw [List.length_append]; simpa using hl⟩
      · rw [List.getElem?_set_self (by rw [wipe_length]; exact hs)]
      · rw [e1, if_pos e]
        exact dpA_app hY (.cons h3 .nil)
    · refine ifF (by simpa using e) ⟨sm, ys, h2, ?_, by omega⟩
      rw [e1, if_neg e, List.append_nil]
      exact hY
  · rintro H2 ⟨sm, ys, h2, hY, hl⟩
    refine done ys H2 sm h2 ?_
    rw [dpA_len hX, List.take_length] at hY
    exact hY
end SG

/-! Calls by keywords alone. -/
namespace SG
open PySem PySem.Spec PyProof.Rows L2
def kwOne {α : Type} : List α → List α → List α
  | [], [a] => [a]
  | _, _ => []
/-- two keywords, in the other order -/
def kwTurn {α : Type} : List α → List α → List α
  | [], [b, a] => [a, b]
  | _, _ => []
theorem kwOne_rel {vs : List V} {us : List Value} {zs : List V} {ws : List Value} (a : Vals vs us) (b : Vals zs ws) : Vals (kwOne vs zs) (kwOne us ws) := by
  cases a with
  | nil =>
    cases b with
    | nil => exact .nil
    | cons r t =>
      cases t with
      | nil => exact .cons r .nil
      | cons _ _ => exact .nil
  | cons _ _ => exact .nil
theorem kwTurn_rel {vs : List V} {us : List Value} {zs : List V} {ws : List Value} (a : Vals vs us) (b : Vals zs ws) : Vals (kwTurn vs zs) (kwTurn us ws) := by
  cases a with
  | nil =>
    cases b with
    | nil => exact .nil
    | cons r t =>
      cases t with
      | nil => exact .nil
      | cons r2 t2 =>
        cases t2 with
        | nil => exact .cons r2 (.cons r .nil)
        | cons _ _ => exact .nil
  | cons _ _ => exact .nil
theorem kb_of {K : PySem.W.Frag} {x qn : Str} {st : Stmt} {f : Addr} {fd : FuncData} {ps ks : List Str} {g : List Value → List Value → List Value} {gV : List V → List V → List V} (F : Fun K x qn st f fd)
    (h : ∀ (kV doc pm : Value) (an : Option Addr) (cdv ct : Value) (us ws : List Value), (g us ws).length = ps.length → bindArgs (PySem.W.fnOf x qn (defArgs st) (defBody st) (defScope st) .none kV doc pm an cdv ct) ⟨us, ks.zip ws⟩ = pure (ps.zip (g us ws)))
    (rel : ∀ {vs : List V} {us : List Value} {zs : List V} {ws : List Value}, Vals vs us → Vals zs ws → Vals (gV vs zs) (g us ws)) : KBinds K fd ps ks g gV := by
  obtain ⟨oc, od, kV, doc, pm, an, cdv, ct, osl, rfl, lk, hcd⟩ := F.ex
  exact ⟨fun s us ws _ hl => .of_eq (h kV doc pm an cdv ct us ws hl), rel⟩
end SG

/-! Data that stays while the deck is drawn from; small data. -/
namespace SG
open PySem PySem.Spec PyProof.Rows L2
section
variable {K : PySem.W.Frag} {d l : Addr} {c : Nat} {H H2 : Hp}
def St (K : PySem.W.Frag) (d l : Addr) (H : Hp) (x : V) (D : PyData) : Prop := ∀ H2, Kept d l H H2 → Dp K H2 x D
def StA (K : PySem.W.Frag) (d l : Addr) (H : Hp) (xs : List V) (ds : List PyData) : Prop := ∀ H2, Kept d l H H2 → DpAll K H2 xs ds
theorem St.at {x : V} {D : PyData} (h : St K d l H x D) : Dp K H x D := h H (Kept.refl _ _ _)
theorem St.mono {x : V} {D : PyData} (h : St K d l H x D) (k : Kept d l H H2) : St K d l H2 x D := fun H3 k3 => h H3 (k.trans k3)
theorem StA.mono {xs : List V} {ds : List PyData} (h : StA K d l H xs ds) (k : Kept d l H H2) : StA K d l H2 xs ds := fun H3 k3 => h H3 (k.trans k3)
theorem St.int (i : Int) : St K d l H (.int i) (.int i) := fun _ _ => .int i
theorem St.bl (b : Bool) : St K d l H (.bl b) (.bool b) := fun _ _ => .bl b
theorem St.str (t : Str) : St K d l H (.str t) (.str t) := fun _ _ => .str t
theorem St.non : St K d l H .non .none := fun _ _ => .non
theorem St.tup {a : Addr} {xs : List V} {ds : List PyData} (D : Deck H d l c) (h : SqT K H a xs) (t : StA K d l H xs ds) : St K d l H (.ref a) (.tuple ds) := fun H3 k => .tup (k.tup D h) (t H3 k)
theorem St.lst {a : Addr} {xs : List V} {ds : List PyData} (h : H a = some (.lst xs)) (n1 : a ≠ d) (n2 : a ≠ l) (t : StA K d l H xs ds) : St K d l H (.ref a) (.list ds) := fun H3 k => .lst (SqL.of (k _ _ h n1 n2)) (t H3 k)
theorem StA.nil : StA K d l H [] [] := fun _ _ => .nil
theorem StA.cons {x : V} {xs : List V} {D : PyData} {ds : List PyData} (a : St K d l H x D) (b : StA K d l H xs ds) : StA K d l H (x :: xs) (D :: ds) := fun H3 k => .cons (a H3 k) (b H3 k)
theorem StA.app {xs ys : List V} {ds es : List PyData} (a : StA K d l H xs ds) (b : StA K d l H ys es) : StA K d l H (xs ++ ys) (ds ++ es) := fun H3 k => dpA_app (a H3 k) (b H3 k)
theorem StA.ints (ns : List Int) : StA K d l H (ns.map V.int) (dI ns) := fun _ _ => dpInts ns
end
/-! ### small data -/
structure Sm (n b : Nat) (D : PyData) : Prop where
  lay : D.canLay0 = true
  dep : D.depth ≤ n
  tell : tellable D = true
  short : D.leavesShort 4302 = true
  bulk : D.bulk ≤ b
structure SmA (n b : Nat) (ds : List PyData) : Prop where
  lay : PyData.canLayAll0 ds = true
  dep : PyData.depthAll ds ≤ n
  tell : tellableAll ds = true
  short : PyData.leavesShortAll 4302 ds = true
  bulk : PyData.bulkAll ds ≤ b
theorem Sm.ok {n b : Nat} {D : PyData} (h : Sm n b D) (hn : n ≤ 50) (hb : b ≤ 3000) : OkD D := ⟨h.lay, Nat.le_trans h.dep hn, h.tell, h.short, Nat.le_trans h.bulk hb⟩
theorem Sm.mono {n b m e : Nat} {D : PyData} (h : Sm n b D) (hn : n ≤ m) (hb : b ≤ e) : Sm m e D := ⟨h.lay, Nat.le_trans h.dep hn, h.tell, h.short, Nat.le_trans h.bulk hb⟩
theorem SmA.mono {n b m e : Nat} {ds : List PyData} (h : SmA n b ds) (hn : n ≤ m) (hb : b ≤ e) : SmA m e ds := ⟨h.lay, Nat.le_trans h.dep hn, h.tell, h.short, Nat.le_trans h.bulk hb⟩
theorem SmA.tuple {n b : Nat} {ds : List PyData} (h : SmA n b ds) : Sm (n + 1) b (.tuple ds) :=
  ⟨by simpa only [PyData.canLay0] using h.lay, by simp only [PyData.depth]; have := h.dep; omega, by simpa only [tellable] using h.tell, by simpa only [PyData.leavesShort] using h.short, by simpa only [PyData.bulk] using h.bulk⟩
theorem SmA.list {n b : Nat} {ds : List PyData} (h : SmA n b ds) : Sm (n + 1) b (.list ds) :=
  ⟨by simpa only [PyData.canLay0] using h.lay, by simp only [PyData.depth]; have := h.dep; omega, by simpa only [tellable] using h.tell, by simpa only [PyData.leavesShort] using h.short, by simpa only [PyData.bulk] using h.bulk⟩
theorem SmA.nil (n : Nat) : SmA n 0 [] := ⟨by simp [PyData.canLayAll0], by simp [PyData.depthAll], by simp [tellableAll], by simp [PyData.leavesShortAll], by simp [PyData.bulkAll]⟩
theorem SmA.cons {n b e : Nat} {D : PyData} {ds : List PyData} (h : Sm n b D) (t : SmA n e ds) : SmA n (b + 1 + e) (D :: ds) :=
  ⟨by simp only [PyData.canLayAll0, h.lay, t.lay, Bool.and_self], by simp only [PyData.depthAll]; exact Nat.max_le.mpr ⟨h.dep, t.dep⟩, by simp only [tellableAll, h.tell, t.tell, Bool.and_self], by simp only [PyData.leavesShortAll, h.short, t.short, Bool.and_self],
    by simp only [PyData.bulkAll]; have := h.bulk; have := t.bulk; omega⟩
theorem SmA.app {n e : Nat} {es : List PyData} (t : SmA n e es) : ∀ {ds : List PyData} {b : Nat}, SmA n b ds → SmA n (b + e) (ds ++ es)
  | [], b, h => t.mono (Nat.le_refl _) (by omega)
  | D :: ds, b, h => by
    have l1 : D.canLay0 = true ∧ PyData.canLayAll0 ds = true := by simpa only [PyData.canLayAll0, Bool.and_eq_true] using h.lay
    have l2 : tellable D = true ∧ tellableAll ds = true := by simpa only [tellableAll, Bool.and_eq_true] using h.tell
    have l3 : D.leavesShort 4302 = true ∧ PyData.leavesShortAll 4302 ds = true := by simpa only [PyData.leavesShortAll, Bool.and_eq_true] using h.short
    have l4 : D.depth ≤ n ∧ PyData.depthAll ds ≤ n := by have := h.dep; simp only [PyData.depthAll] at this; exact Nat.max_le.mp this
    have l5 : D.bulk + 1 + PyData.bulkAll ds ≤ b := by have := h.bulk; simpa only [PyData.bulkAll] using this
    have z := SmA.app t (ds := ds) (b := PyData.bulkAll ds) ⟨l1.2, l4.2, l2.2, l3.2, Nat.le_refl _⟩
    exact (SmA.cons ⟨l1.1, l4.1, l2.1, l3.1, Nat.le_refl _⟩ z).mono (Nat.le_refl _) (by omega)
theorem Sm.int {i : Int} (h : i.natAbs < 10 ^ 4300) : Sm 0 0 (.int i) := by
  have z := OkD.int h
  exact ⟨z.lay, by simp [PyData.depth], z.tell, z.short, by simp [PyData.bulk]⟩
theorem SmA.ints : ∀ {ns : List Int}, (∀ n ∈ ns, n.natAbs < 10 ^ 4300) → SmA 0 ns.length (dI ns)
  | [], _ => .nil 0
  | n :: ns, h => (SmA.cons (Sm.int (h n List.mem_cons_self)) (SmA.ints fun m hm => h m (List.mem_cons_of_mem _ hm))).mono (Nat.le_refl _) (by simp; omega)
end SG

/-! Texts: joined signs; lists of values that are drawn. -/
namespace SG
open PySem PySem.Spec PyProof.Rows L2 TL
open SX (S S_tl S_len)
def rJoin (K : PySem.W.Frag) : V → List V → Hp → VK → Prop := fun x xs H Q => ∃ a p, ∃ ys : List Str, x = .str a ∧ xs = [.ref p] ∧ (SqL K H p (ys.map V.str) ∨ SqT K H p (ys.map V.str)) ∧ (ys.map (·.length)).sum + ys.length * a.length ≤ 16777216 ∧ Q (.str (Txt.join a ys)) H
theorem k_join {X : Cx} {K : PySem.W.Frag} {o e : Expr} {to te : TE} {apos pos : Pos} (ho : PE X o to) (he : PE X e te) (eK : X.K = K := by rfl) (hs : starEach [e] X.env = [(false, eval e X.env)] := by rfl) (hbase : attributeBase o "join" X.env (eval o X.env) = eval o X.env := by rfl) (hline : (apos.endLine == pos.line) = true := by rfl) :
    PE X (.Call (.Attribute o "join" apos) [e] [] pos) (tM1 (rJoin K) to te) := eK ▸ pe_join ho he hs hbase hline
/-- single signs, joined -/
theorem join_signs : ∀ gs : List Nat, Txt.join "" (gs.map fun g => (⟨#[g]⟩ : Str)) = S gs := by
  intro gs
  rw [join_eq]
  have z := tl_join "" (gs.map fun g => (⟨#[g]⟩ : Str))
  have e : ∀ ls : List Nat, joinL (tl ("" : Str)) (ls.map fun g => [g]) = ls := by
    intro ls
    induction ls with
    | nil => rfl
    | cons a r ih =>
      cases r with
      | nil => rfl
      | cons b r2 =>
        show [a] ++ (tl ("" : Str) ++ joinL (tl ("" : Str)) ((b :: r2).map fun g => [g])) = _
        rw [ih]
        rfl
  rw [List.map_map] at z
  have z2 := z.trans (e gs)
  exact (S_tl _).symm.trans (congrArg S z2)
/-- a list of values that are drawn, turn by turn -/
theorem lc_drawsV {d l D : Addr} {c n s : Nat} {te : TE} {σ : L2.St} {H1 : Hp} {Qd : Hp → Prop} {B : V → Prop} (D0 : Deck H1 d l c) (hD : H1 D = none) (hn : n ≤ 1000)
    (turn : ∀ (i : Nat) (H2 : Hp), i < n → Deck H2 d l (c + i) → Kept d l H1 H2 → ∀ R : VK, (∀ (x : V) (H3 : Hp), B x → Deck H3 d l (c + i + 1) → Kept d l H2 H3 → R x H3) → te ((wipe σ [s]).set s (some (.int (0 + i)))) H2 R)
    (done : ∀ (xs : List V) (H2 : Hp), xs.length = n → (∀ x ∈ xs, B x) → H2 D = some (.lst xs) → Deck H2 d l (c + n) → Kept d l H1 H2 → Qd H2) :
    ∃ W : Nat → Nat → Hp → Prop, (∃ m, W 0 m (upd H1 D (.lst []))) ∧ ∀ i m H, W i m H →
      ((Itr 0 n).stop i H ∧ Qd H) ∨ ((Itr 0 n).go i H ∧ ∃ Nx : Hp → Prop, (∀ H2, Nx H2 → ∃ m2, m2 < m ∧ W (i + 1) m2 H2) ∧ ∀ x H2, (Itr 0 n).yld i H x H2 → gName s x (wipe σ [s]) H2 fun σ2 H3 => wipe σ2 [s] = wipe σ [s] ∧ tYes σ2 H3 fun b H4 =>
        if b = true then te σ2 H4 fun y H5 => ∃ acc, H5 D = some (.lst acc) ∧ acc.length < sizeLine ∧ Nx (upd H5 D (.lst (acc ++ [y]))) else Nx H4) := by
  obtain ⟨nd, nl⟩ := D0.ne hD
  refine lc_range (fun i H2 => ∃ xs : List V, xs.length = i ∧ (∀ x ∈ xs, B x) ∧ H2 D = some (.lst xs) ∧ Deck H2 d l (c + i) ∧ Kept d l H1 H2) ?_ ?_ ?_
  · exact ⟨[], rfl, (fun _ h => absurd h List.not_mem_nil), upd_same, D0.upd hD, .of (same_new hD)⟩
  · rintro i H2 hi ⟨xs, hx, hB, hD2, D2, k2⟩
    refine ⟨wipe1 _ _ _, ?_⟩
    refine yesI ?_
    refine turn i H2 hi D2 k2 _ fun x H3 hb D3 k3 => ⟨xs, k3 _ _ hD2 nd nl, ?_, xs ++ [x], by simp [hx], fun y hy => ?_, upd_same, ?_, ?_⟩
    · rw [hx]
      exact small1000 (by omega)
    · rcases List.mem_append.mp hy with h | h
      · exact hB y h
      · rw [List.mem_singleton.mp h]; exact hb
    · obtain ⟨cs, m, k, h1, h2, h3⟩ := D3
      exact ⟨cs, m, k, by rw [upd_ne nd.symm]; exact h1, by rw [upd_ne nl.symm]; exact h2, h3⟩
    · intro b o e h1 h2
      rw [upd_ne (ne_of_none e hD)]
      exact k3 _ _ (k2 _ _ e h1 h2) h1 h2
  · rintro H2 ⟨xs, hx, hB, hD2, D2, k2⟩
    exact done xs H2 hx hB hD2 D2 k2
/-- values that are single signs -/
theorem signs_of : ∀ {xs : List V} {p : Nat → Prop}, (∀ x ∈ xs, ∃ g, p g ∧ x = .str ⟨#[g]⟩) → ∃ gs : List Nat, xs = (gs.map fun g => (⟨#[g]⟩ : Str)).map V.str ∧ ∀ g ∈ gs, p g
  | [], _, _ => ⟨[], rfl, fun _ h => nomatch h⟩
  | x :: xs, p, h => by
    obtain ⟨g, hg, rfl⟩ := h x List.mem_cons_self
    obtain ⟨gs, rfl, hs⟩ := signs_of (xs := xs) (p := p) fun y hy => h y (List.mem_cons_of_mem _ hy)
    refine ⟨g :: gs, rfl, fun y hy => ?_⟩
    rcases List.mem_cons.mp hy with rfl | hy
    · exact hg
    · exact hs y hy
theorem sum_ones : ∀ gs : List Nat, ((gs.map fun g => (⟨#[g]⟩ : Str)).map (·.length)).sum = gs.length
  | [] => rfl
  | g :: gs => by
    have ih := sum_ones gs
    simp only [List.map_cons, List.sum_cons, List.length_cons, ih]
    show 1 + gs.length = _
    omega
end SG

/-! enumerate of a text from a number on; an integer's figures of base 2 in an f-string. -/
namespace SG
section
open PySem PyProof.Rows Builtin
def fB : PySem.Builtin.Float.FormatSpec := { fill := 32, align := 62, type := some 98 }
theorem fB_ok : PySem.Builtin.Float.parseFormatSpec ("b" : PySem.Str).cps.toList "int" 62 = .ok fB := by
  rfl
section
variable {prog : Program} {w : World} {A : Around} {E : Value → Shared → Prop} {s : Shared} {env : Env}
theorem mk_eq {M : Model} {X T : PySem.Str} {Q : Value → Shared → Prop} (e : X = T) (hL : T.length ≤ sizeLine) (h : Q (.str T s.toks) { s with toks := s.toks + 1 }) : wpAny M A (mkStr X) Q E s := by
  subst e
  exact wpAny_mkStr h hL
theorem formatField_int_b2 {n : Nat} {t : Tok} {spec : PySem.Str} {f : PySem.Builtin.Float.FormatSpec} {Q : Value → Shared → Prop} (hl : (Nat.toDigits 2 n).length ≤ 1000) (hd : Nat.toDigits 2 n ≠ [])
    (hp : PySem.Builtin.Float.parseFormatSpec spec.cps.toList "int" 62 = .ok f) (hty : f.type = some 98) (hpr : f.precision = none) (hz : f.noNeg0 = false) (hal : f.alt = false) (hw : f.width = none) (hgr : f.grouping = none) (hsg : f.sign = none) (hfi : f.fill = 32) (hag : f.align = 62) (hne : (spec.length == 0) = false) (hsz : spec.length ≤ sizeLine)
    (hasc : ((spec.cps.toList.drop 1).any (· ≥ 128) || (spec.cps.getD 0 0 ≥ 128 && !([60, 62, 61, 94] : List Nat).contains (spec.cps.getD 1 0))) = false)
    (h : Q (.str ⟨((Nat.toDigits 2 n).map Char.toNat).toArray⟩ (s.toks + 1)) { s with toks := s.toks + 1 + 1 }) :
    wpAny (model prog w) A (formatField (.int n t) spec) Q E s := by
  show wpAny _ _ (holding [.int n t] (pyFormat (.int n t) spec)) Q E s
  refine wpAny_holding ?_
  unfold pyFormat
  refine wpAny_bind (wpAny_mkStr ?_ hsz)
  refine wpAny_bind (m := callSpecial? (.int n t) (Str.ofString "__format__") [.str spec s.toks]) (wpAny_callSpecial?_slot (name := Str.ofString "__format__") (typeIs_int _ n t) slot_int_format ?_)
  refine wpAny_call (codeAny_call_builtin slot_int_format.plain entry_int_format (slot_int_format.check _ _ _ _ _ _ _ _ (typeIs_int _ n t) (args_int_format _ _) ?_))
  unfold Builtin.«int.__format__»
  simp only [selfAndOne, noKeywords, Int.intOfSelf, asInt?, asStr?, List.isEmpty_nil, if_true, pure_bind, bind_pure, bind_assoc, hne, hasc, Bool.false_eq_true, if_false,
    show (Value.str spec s.toks == Value.none) = false from rfl]
  refine wpAny_bind (wpAny_typeNameOf (T := "str") (typeIs_str _ _ _) (by decide) fun _ => ?_)
  first | refine wpAny_bind (wpAny_typeNameOfCut_int ?_) | refine wpAny_bind (wpAny_typeNameOf_int ?_)
  simp only [hp, hty, Option.getD_some]
  rw [if_pos (by decide)]
  show wpAny _ _ (if _ then _ else _) _ _ _
  rw [if_neg (by simp [hpr])]
  show wpAny _ _ (if _ then _ else _) _ _ _
  rw [if_neg (by simp [hz])]
  show wpAny _ _ (if _ then _ else _) _ _ _
  rw [if_neg (by decide)]
  show wpAny _ _ (if _ then _ else _) _ _ _
  rw [if_neg (by decide)]
  show wpAny _ _ (if _ then _ else _) _ _ _
  rw [if_neg (by simp [hw])]
  show wpAny _ _ (retStr _) _ _ _
  unfold retStr
  have e : ∀ d : Nat, (if ((98 : Nat) == 88) = true then (Nat.digitChar d).toUpper else Nat.digitChar d).toNat = (Nat.digitChar d).toNat := fun d => rfl
  refine wpAny_bind (mk_eq (T := ⟨((Nat.toDigits 2 n).map Char.toNat).toArray⟩) ?_ ?_ (wpAny_pure ?_))
  · rw [if_neg (show ¬ f.alt = true by rw [hal]; exact Bool.false_ne_true)]
    have e1 : (List.map (fun c : Char => (if ((98 : Nat) == 88) = true then c.toUpper else c).toNat) (Nat.toDigits 2 (n : Int).natAbs)) = (Nat.toDigits 2 n).map Char.toNat := rfl
    have e2 : decide ((n : Int) < 0) = false := decide_eq_false (by omega)
    have e3 : ((Nat.toDigits 2 n).map Char.toNat).isEmpty = false := by
      cases q : Nat.toDigits 2 n with
      | nil => exact absurd q hd
      | cons _ _ => rfl
    rw [e1, e2]
    have ef : f = fB := by
      cases f
      simp_all [fB]
    clear hp hty hpr hz hal hw hgr hsg hfi hag h
    subst ef
    generalize (Nat.toDigits 2 n).map Char.toNat = ds at e3 ⊢
    cases ds with
    | nil => cases e3
    | cons a r =>
      conv => lhs; whnf
      have z : ((-1 : Int) - ((0 : Nat) + (0 : Nat) + (0 : Nat)) - (((a :: r).length : Nat) : Int)).toNat = 0 := by omega

      simp [fB]
      omega
  · show ((Nat.toDigits 2 n).map Char.toNat).toArray.size ≤ sizeLine
    rw [List.size_toArray, List.length_map]
    exact Nat.le_trans hl (by decide)
  · dsimp only
    refine wpAny_bind (wpAny_isInstance (typeIs_str _ _ _) isSubtype_str_str (wpAny_pure ?_))
    exact h
theorem formatField_int_b {n : Nat} {t : Tok} {Q : Value → Shared → Prop} (hl : (Nat.toDigits 2 n).length ≤ 1000) (hd : Nat.toDigits 2 n ≠ [])
    (h : Q (.str ⟨((Nat.toDigits 2 n).map Char.toNat).toArray⟩ (s.toks + 1)) { s with toks := s.toks + 1 + 1 }) :
    wpAny (model prog w) A (formatField (.int n t) "b") Q E s :=
  formatField_int_b2 hl hd fB_ok rfl rfl rfl rfl rfl rfl rfl rfl rfl (by decide +kernel) (by decide) (by decide +kernel) h
end
end
end SG
namespace SG
open PySem PySem.Spec PyProof.Rows L2
section
variable {M : Model} {A : Around} {E : Value → Shared → Prop} {s : Shared} {env : Env}
theorem callWith_tyKwB {pos : Pos} {T : String} {first : List Value} {args : List (Bool × Sem Value)} {keywords : List (Option Str × Sem Value)} {Q : Value → Shared → Prop}
    (hplain : args.any (·.1) = false) (hkw : keywords.any (·.1.isNone) = false)
    (h : wpAny M A (evalArgs (.type T) true args keywords) (fun a s₁ => wpAny M A (call (.type T) (first ++ a.pos) a.kw) Q E s₁) E s) :
    wpAny M A (callWith pos (.type T) first args keywords) Q E s := by
  unfold callWith
  refine wpAny_bind (wpAny_holding (wpAny_mono h (fun a s₁ h₁ => wpAny_bind (wpAny_standAt ?_)) fun _ _ x => x))
  simp only [hplain, hkw, Bool.or_false]
  refine wpAny_bind (wpAny_pure ?_)
  exact wpAny_bind (wpAny_mono h₁ (fun r s₂ hr => wpAny_bind (wpAny_holding (wpAny_point (wpAny_pure hr)))) fun _ _ x => x)
theorem callWith_tyKw {pos : Pos} {T : String} {e : Expr} {rest : List Expr} {kws : List Keyword} {Q : Value → Shared → Prop}
    (h : wpAny M A (spliced (backTo pos (starEach (e :: rest) env))) (fun vs s₁ => wpAny M A (evalAll ((backToKw pos (keywordEach kws env)).map (·.2)))
      (fun kvs s₂ => wpAny M A (call (.type T) vs (((backToKw pos (keywordEach kws env)).filterMap (·.1)).zip kvs)) Q E s₂) E s₁) E s)
    (he : backTo pos (starEach (e :: rest) env) = (false, eval e env) :: backTo pos (starEach rest env) := by rfl)
    (hplain : (backTo pos (starEach (e :: rest) env)).any (·.1) = false := by rfl)
    (hall : (backToKw pos (keywordEach kws env)).all (·.1.isSome) = true := by rfl)
    (hkw : (backToKw pos (keywordEach kws env)).any (·.1.isNone) = false := by rfl) :
    wpAny M A (callWith pos (.type T) [] (backTo pos (starEach (e :: rest) env)) (backToKw pos (keywordEach kws env))) Q E s := by
  refine callWith_tyKwB hplain hkw ?_
  rw [he] at h ⊢
  exact evalArgs_kwB hall h
end
theorem Draws.shift {prog : Program} {w : World} {A : Around} {it : Addr} {fp : List Addr} {n : Nat} {P : Nat → Value → Prop} {St : Nat → Heap → Prop} (D : Draws prog w A it fp n P St) (k : Nat) :
    Draws prog w A it fp (k + n) (fun j v => P (j - k) v) (fun j h => k ≤ j ∧ St (j - k) h) where
  live := fun _ _ st => D.live _ _ st.2
  frame := fun _ _ _ st hk => ⟨st.1, D.frame _ _ _ st.2 hk⟩
  item := fun i s Q E hi st hQ => D.item (i - k) s Q E (by omega) st.2 fun v h' tk p st' sb => hQ v h' tk p ⟨by omega, by rw [show i + 1 - k = i - k + 1 by omega]; exact st'⟩ sb
  done := fun s Q E st hE => D.done s Q E (by rw [show n = k + n - k by omega]; exact st.2) hE
/-- a text's signs, each behind its number, from k on, in a new pair -/
def IteS (x : Str) (k : Nat) : It :=
  ⟨fun i _ => i < x.cps.size, fun i Hx v H2 => ∃ T c, v = .ref T ∧ Hx T = none ∧ x.cps[i]? = some c ∧ H2 = upd Hx T (.tup [.int ((k + i : Nat) : Int), .str ⟨#[c]⟩]), fun i _ => x.cps.size ≤ i⟩
theorem turn_enumS {P : Program} {w : World} {K : PySem.W.Frag} {elts : List Expr} {kk : Nat} {tpos : Pos} (x : Str) (t : Tok) (k : Nat) (e it : Addr) :
    Turn P w K (.Tuple elts kk tpos) (IteS x k) [e, it] e (fun i h => (∃ old, IsEnum h e it ((k + i : Nat) : Int) old) ∧ h.IsStrIter it (strIterType x) x t i ∧ e ≠ it) where
  mem := by simp
  obj := fun i h q b hb => by
    obtain ⟨⟨old, he⟩, ⟨o, ho, hc, hd⟩, _⟩ := q
    rcases (show b = e ∨ b = it by simpa using hb) with z | z
    · rw [z]; exact ⟨_, he, fun v q => nomatch q⟩
    · rw [z]; exact ⟨o, ho, fun v q => by rw [hd] at q; cases q⟩
  keep := fun i h h2 q kp => by
    obtain ⟨⟨old, he⟩, ⟨o, ho, r⟩, hne⟩ := q
    exact ⟨⟨old, kp e (by simp) _ he⟩, ⟨o, kp it (by simp) o ho, r⟩, hne⟩
  item := by
    intro X hP hw hK hc i pins st σ Hx E I hf q hg
    subst hP hw hK
    obtain ⟨⟨old, he⟩, hit, hne⟩ := q
    have hel : e < st.heap.objs.size := Heap.lt_size he
    have hil : it < st.heap.objs.size := by obtain ⟨_, z, _⟩ := hit; exact Heap.lt_size z
    have hi : i < x.cps.size := hg
    refine wpAny_pyNext_enum_itemD (Draws.shift (Draws.text (prog := X.prog) (w := X.w) (A := X.A.in1) (I.ok.hd hc) it x t) k) (i := k + i) he ⟨Nat.le_add_right _ _, by rw [Nat.add_sub_cancel_left]; exact hit⟩ (by omega) hne (by simp [hne]) fun y h1 tk hy ho hs1 hT hsz hk => ?_
    obtain ⟨c, u, hcx, rfl⟩ := hy
    rw [Nat.add_sub_cancel_left] at hcx
    have hs2 := hs1.2
    rw [show k + i + 1 - k = i + 1 by omega] at hs2
    refine ⟨_, rfl, wpAny_letOwnedTupleGo_enum (s := { st with heap := h1, toks := tk + 1 }) ho fun h2 he2 sb => ?_⟩
    have hT2 : h2.get? st.heap.objs.size = some { cls := .type "tuple", data := .seq #[.int ((k + i : Nat) : Int) tk, .str ⟨#[c]⟩ u] } := (sb.2 _ (Nat.ne_of_gt hel)).trans hT
    have new : ObjOk X.prog X.w (upd Hx st.heap.objs.size (.tup [.int ((k + i : Nat) : Int), .str ⟨#[c]⟩])) h2 st.heap.objs.size (.tup [.int ((k + i : Nat) : Int), .str ⟨#[c]⟩]) :=
      ⟨by show 2 ≤ sizeLine; decide, [.int ((k + i : Nat) : Int) tk, .str ⟨#[c]⟩ u], .cons ⟨_, rfl⟩ (.cons ⟨_, rfl⟩ .nil), ⟨_, hT2, rfl, _, rfl⟩⟩
    have I1 : L2.Inv X pins σ (upd Hx st.heap.objs.size (.tup [.int ((k + i : Nat) : Int), .str ⟨#[c]⟩])) { st with heap := h2, toks := tk + 1 } :=
      I.turnedNew (ch := [e, it]) (fun b ob hb z => (sb.2 b (fun z => hb (by simp [z]))).trans (hk b ob (fun z => hb (by simp [z])) (fun z => hb (by simp [z])) z)) hf (Nat.le_refl _) new
    refine ⟨.ref st.heap.objs.size, _, I1, rfl, ⟨_, c, rfl, I.hok.fresh (Nat.le_refl _), hcx, rfl⟩, ⟨⟨.str ⟨#[c]⟩ u, ?_⟩, ?_, hne⟩, fun b hb => ?_⟩
    · rw [show ((k + (i + 1) : Nat) : Int) = ((k + i : Nat) : Int) + 1 by omega]
      exact he2
    · obtain ⟨o, ho, r⟩ := hs2
      exact ⟨o, (sb.2 it (Ne.symm hne)).trans ho, r⟩
    · have hb2 : b < st.heap.objs.size := by
        rcases (show b = e ∨ b = it by simpa using hb) with z | z
        · rw [z]; exact hel
        · rw [z]; exact hil
      rw [upd_ne (Nat.ne_of_lt hb2)]
      exact (hf b hb).1
  done := by
    intro X hP hw hK hc i pins st σ Hx E I hf q hg
    subst hP hw hK
    obtain ⟨⟨old, he⟩, hit, hne⟩ := q
    obtain ⟨f0, f1, f2, f3, f4, f5⟩ := hf it (by simp)
    have hx : x.cps[i]? = none := Array.getElem?_eq_none hg
    have D : Draws X.prog X.w X.A.in1 it [it] i (fun _ _ => True) (fun j h => j = i ∧ h.IsStrIter it (strIterType x) x t i) :=
      { live := fun _ _ z => by obtain ⟨_, ⟨o, ho, _⟩⟩ := z; exact ⟨o, ho⟩
        frame := fun _ _ _ z hk => ⟨z.1, by obtain ⟨o, ho, r⟩ := z.2; exact ⟨o, hk it (by simp) o ho, r⟩⟩
        item := fun j s Q E hj z => absurd z.1 (Nat.ne_of_lt hj)
        done := fun s Q E z hE => ?dn }
    case dn =>
      obtain ⟨_, z⟩ := z
      revert z
      unfold strIterType
      cases ha : x.cps.all (· < 128)
      · simp only [Bool.false_eq_true, if_false]
        intro z
        exact wpAny_nextOf_wide_end (I.ok.hd hc) z hx hE
      · simp only [if_true]
        intro z
        exact wpAny_nextOf_ascii_end (I.ok.hd hc) z hx hE
    exact wpAny_pyNext_enum_endD D he ⟨rfl, hit⟩ fun h2 eb => ⟨rfl, I.turned (t' := st.toks) (fun b o hb q => eb b o hb q) f0 f1 f3 f4 f5⟩
  self := fun A i st Q E q h => by
    obtain ⟨⟨_, he⟩, _⟩ := q
    exact wpAny_pyIter_enum he h
def iEnumS (ta tk : TA) : TI := fun σ Hx R => ta σ Hx fun vs H1 => tk σ H1 fun ks H2 => ∃ (x : Str) (k : Nat), vs = [.str x] ∧ ks = [.int k] ∧ k < 1000000 ∧ R (IteS x k) H2
theorem pi_enumS {X : Cx} {e c : Expr} {ta tk : TA} {p pos tpos kpos : Pos} {elts : List Expr} {kk : Nat} (hg : Gl X "enumerate") (hm : X.mg "enumerate" = none) (ha : PA X [e] ta) (hk : PK X [⟨some "start", c, kpos⟩] tk) (hs : starEach [e] X.env = [(false, eval e X.env)] := by rfl) :
    PI X (.Tuple elts kk tpos) (.Call (.Name "enumerate" p) [e] [⟨some "start", c, kpos⟩] pos) (iEnumS ta tk) := by
  refine ⟨fun pins st σ Hx R I h => ?_⟩
  refine wpAny_Call_Name_kw (ld_blt I hg hm boot_enumerate (callWith_tyKw (thn (ha.run pos pins st σ Hx _ I h) ?_) (by rw [hs]; rfl) (by rw [hs]; rfl)))
  rintro us s1 ⟨vs, H1, I1, r1, q1⟩
  refine thn (hk.run pos pins s1 σ H1 _ I1 q1) ?_
  rintro ws s2 ⟨zs, H2, I2, r2, x, k, rfl, rfl, hk9, q⟩
  obtain ⟨t, rfl⟩ : ∃ t, us = [.str x t] := by
    cases r1 with
    | cons x y => cases y; obtain ⟨t, rfl⟩ := x; exact ⟨_, rfl⟩
  obtain ⟨u, rfl⟩ : ∃ u, ws = [.int k u] := by
    cases r2 with
    | cons x y => cases y; obtain ⟨t, rfl⟩ := x; exact ⟨_, rfl⟩
  show wpAny _ _ (call (.type "enumerate") [.str x t] [(Str.ofString "start", .int k u)]) _ _ _
  refine enum_begins_start (begins_text x t) trivial (by omega) (by omega) fun h2 he hit hsz hkp => wpAny_pyIter_enum he ?_
  have I3 : L2.Inv X pins σ H2 { s2 with heap := h2 } := I2.kept (t' := s2.toks) hkp
  refine ⟨s2.heap.objs.size + 1, [s2.heap.objs.size + 1, s2.heap.objs.size], _, _, H2, rfl, I3, turn_enumS x t k (s2.heap.objs.size + 1) s2.heap.objs.size,
    ⟨⟨.none, he⟩, ⟨_, hit, rfl, rfl⟩, Nat.succ_ne_self _⟩, fun b hb => ?_, q⟩
  have hle : s2.heap.objs.size ≤ b := by
    rcases (show b = s2.heap.objs.size + 1 ∨ b = s2.heap.objs.size by simpa using hb) with z | z
    · rw [z]; exact Nat.le_succ _
    · rw [z]; exact Nat.le_refl _
  exact I2.fpOk hle (I2.hok.fresh hle)
end SG

namespace SG
open PySem PySem.Spec PyProof.Rows L2
open SX (S)
/-- an integer's figures of base 2, as signs -/
def binS (n : Nat) : List Nat := (Nat.toDigits 2 n).map Char.toNat
def tFmtB (te : TE) : TE := fun σ H Q => te σ H fun x H1 => ∃ n : Nat, x = .int n ∧ n < 2 ^ 900 ∧ Q (.str (S (binS n))) H1
theorem bin_len {n : Nat} (h : n < 2 ^ 900) : (Nat.toDigits 2 n).length ≤ 1000 := Nat.le_trans (toDigits_len_pow (by decide) (by decide) h) (by decide)
theorem bin_ne (n : Nat) : Nat.toDigits 2 n ≠ [] := by
  intro e
  have := toDigits_len_ge 2 n
  rw [e] at this
  cases this
theorem pe_fmtB {X : Cx} {e : Expr} {te : TE} {pos p1 p2 : Pos} {j : Nat} (he : PE X e te) : PE X (.FormattedValue e (-1) (some (.JoinedStr [.Constant (.str "b") j p1] p2)) pos) (tFmtB te) := by
  refine ⟨fun pins s σ H Q I h => wpAny_FormattedValue_spec (thn (he.run pins s σ H _ I h) ?_)⟩
  rintro v s1 ⟨x, H1, I1, r1, n, rfl, hn, q⟩
  obtain ⟨t, rfl⟩ := r1
  refine thn ((pe_joined1 (X := X) (pe_str (x := "b"))).run pins s1 σ H1 (fun y H2 => y = .str "b" ∧ H2 = H1) I1 ⟨rfl, rfl⟩) ?_
  rintro u s2 ⟨y, H2, I2, r2, rfl, rfl⟩
  obtain ⟨t2, rfl⟩ := r2
  exact ⟨_, _, rfl, formatField_int_b (bin_len hn) (bin_ne n) ⟨.str (S (binS n)), H2, I2.tok _, ⟨_, rfl⟩, q⟩⟩
theorem walk_enumS {x : Str} {k : Nat} : Walk (IteS x k) x.cps.size (fun _ => True) (fun i H v H' => ∃ T c, v = .ref T ∧ H T = none ∧ x.cps[i]? = some c ∧ H' = upd H T (.tup [.int ((k + i : Nat) : Int), .str ⟨#[c]⟩])) :=
  ⟨fun _ _ hi _ => hi, fun _ _ => Nat.le_refl _, fun _ _ _ _ _ _ y => y⟩
end SG

/-! // by a divisor of either sign; texts of integers below a bound. -/
namespace SG
open PySem PySem.Spec PyProof.Rows L2
/-- // by a divisor that is not 0, below 2 ^ 9000 either way -/
def CDivN (_ j : Int) : Prop := j ≠ 0 ∧ j.natAbs.log2 < 9000
theorem op_fdivN {X : Cx} : OpR X (binaryOp .FloorDiv) (rI CDivN fun i j => .int (i.fdiv j)) := opI fun i j _ _ _ _ _ hc q =>
  floordiv_int hc.1 q (.inl (PyProof.noPylong_of_log2 hc.2))
theorem wide_divN {i j : Int} {b : Nat} (h : j ≠ 0) (hb : j.natAbs < 2 ^ b) (h0 : 0 < b) (h9 : b ≤ 9000) : CDivN i j := ⟨h, Nat.lt_of_lt_of_le (PySem.Flt.log2_lt_of h0 hb) h9⟩
theorem fdiv_pos_eq {a g : Int} (h : 0 < g) : a.fdiv g = a / g := Int.fdiv_eq_ediv_of_nonneg a (by omega)
theorem fdiv_neg_eq {a g : Int} (h : 0 < g) : a.fdiv (-g) = (-a) / g := by
  have z : (-(-a)).fdiv (-g) = (-a).fdiv g := Int.neg_fdiv_neg ..
  rw [Int.neg_neg] at z
  rw [z]
  exact fdiv_pos_eq h
end SG

/-! Fractions: plain mathematics. -/
namespace SG
def sgn (b : Int) : Int := if b > 0 then 1 else -1
def ratN (a b : Int) : Int := sgn b * a / (Int.gcd a b : Nat)
def ratD (a b : Int) : Int := sgn b * b / (Int.gcd a b : Nat)
/-- a fraction in its least form -/
def Red (a b : Int) : Prop := 0 < b ∧ Int.gcd a b = 1
theorem gcd_pos {a b : Int} (hb : b ≠ 0) : 0 < Int.gcd a b := Int.gcd_pos_iff.mpr (.inr hb)
theorem gcd_step (n f : Nat) : Nat.gcd f (n % f) = Nat.gcd n f := by
  rw [Nat.gcd_comm n f, Nat.gcd_rec f n, Nat.gcd_comm]
theorem sgn_dvd {a b c : Int} (h : c ∣ a) : c ∣ sgn b * a := Int.dvd_trans h (Int.dvd_mul_left _ _)
theorem ratN_mul (a b : Int) : ratN a b * (Int.gcd a b : Nat) = sgn b * a := Int.ediv_mul_cancel (sgn_dvd (Int.gcd_dvd_left ..))
theorem ratD_mul (a b : Int) : ratD a b * (Int.gcd a b : Nat) = sgn b * b := Int.ediv_mul_cancel (sgn_dvd (Int.gcd_dvd_right ..))
theorem sgn_pos {b : Int} (hb : b ≠ 0) : 0 < sgn b * b := by
  unfold sgn
  split <;> omega
theorem sgn_sq (b : Int) : sgn b * sgn b = 1 := by
  unfold sgn
  split <;> rfl
theorem ratD_pos {a b : Int} (hb : b ≠ 0) : 0 < ratD a b := by
  have g := gcd_pos (a := a) hb
  have h := ratD_mul a b
  have p := sgn_pos hb
  rw [← h] at p
  exact Int.pos_of_mul_pos_left p (by omega)
theorem rat_red {a b : Int} (hb : b ≠ 0) : Red (ratN a b) (ratD a b) := by
  refine ⟨ratD_pos hb, ?_⟩
  have g := gcd_pos (a := a) hb
  have e : Int.gcd (sgn b * a) (sgn b * b) = (sgn b).natAbs * Int.gcd a b := Int.gcd_mul_left ..
  have s1 : (sgn b).natAbs = 1 := by
    unfold sgn
    split <;> rfl
  rw [← ratN_mul a b, ← ratD_mul a b, Int.gcd_mul_right, s1, Int.natAbs_natCast, Nat.one_mul] at e
  exact Nat.eq_of_mul_eq_mul_right g (by rw [e, Nat.one_mul])
theorem dvd_of_cop {x y z : Int} (h : Int.gcd x y = 1) (d : y ∣ x * z) : y ∣ z := by
  have d2 : y.natAbs ∣ x.natAbs * z.natAbs := by
    rw [← Int.natAbs_mul]
    exact Int.natAbs_dvd_natAbs.mpr d
  have c : Nat.Coprime y.natAbs x.natAbs := by
    have : Nat.gcd x.natAbs y.natAbs = 1 := h
    exact (Nat.gcd_comm _ _).trans this
  exact Int.natAbs_dvd_natAbs.mp (c.dvd_of_dvd_mul_left d2)
theorem red_eq {n d x y : Int} (h1 : Red n d) (h2 : Red x y) (e : n * y = x * d) : n = x ∧ d = y := by
  have d1 : y ∣ d := dvd_of_cop h2.2 (by rw [← e]; exact Int.dvd_mul_left _ _)
  have d2 : d ∣ y := dvd_of_cop h1.2 (by rw [e]; exact Int.dvd_mul_left _ _)
  have p1 := h1.1
  have p2 := h2.1
  have l1 := Int.le_of_dvd p1 d1
  have l2 := Int.le_of_dvd p2 d2
  have ed : d = y := by omega
  subst ed
  exact ⟨Int.eq_of_mul_eq_mul_right (by omega) e, rfl⟩
theorem rat_cross (a b : Int) (hb : b ≠ 0) : ratN a b * b = a * ratD a b := by
  have g := gcd_pos (a := a) hb
  have e1 := ratN_mul a b
  have e2 := ratD_mul a b
  refine Int.eq_of_mul_eq_mul_right (a := (Int.gcd a b : Nat)) (by omega) ?_
  calc ratN a b * b * (Int.gcd a b : Nat) = ratN a b * (Int.gcd a b : Nat) * b := by rw [Int.mul_assoc, Int.mul_comm b, ← Int.mul_assoc]
    _ = sgn b * a * b := by rw [e1]
    _ = a * (sgn b * b) := by rw [Int.mul_comm (sgn b) a, Int.mul_assoc]
    _ = a * (ratD a b * (Int.gcd a b : Nat)) := by rw [e2]
    _ = a * ratD a b * (Int.gcd a b : Nat) := by rw [Int.mul_assoc]
/-- a fraction is told by its cross products -/
theorem rat_is {a b x y : Int} (hb : b ≠ 0) (h : Red x y) (e : a * y = x * b) : ratN a b = x ∧ ratD a b = y := by
  refine red_eq (rat_red hb) h ?_
  have c := rat_cross a b hb
  refine Int.eq_of_mul_eq_mul_right (a := b) hb ?_
  calc ratN a b * y * b = ratN a b * b * y := by rw [Int.mul_assoc, Int.mul_comm y, ← Int.mul_assoc]
    _ = a * ratD a b * y := by rw [c]
    _ = a * y * ratD a b := by rw [Int.mul_assoc, Int.mul_comm (ratD a b), ← Int.mul_assoc]
    _ = x * b * ratD a b := by rw [e]
    _ = x * ratD a b * b := by rw [Int.mul_assoc, Int.mul_comm b, ← Int.mul_assoc]
theorem ratN_neg {a b : Int} (hb : 0 < b) : ratN a b < 0 ↔ a < 0 := by
  have c := rat_cross a b (by omega)
  have d := ratD_pos (a := a) (b := b) (by omega)
  constructor
  · intro h
    have z : a * ratD a b < 0 := by rw [← c]; exact Int.mul_neg_of_neg_of_pos h hb
    exact Int.lt_of_not_ge fun h2 => by
      have := Int.mul_nonneg h2 (Int.le_of_lt d)
      omega
  · intro h
    have z : ratN a b * b < 0 := by rw [c]; exact Int.mul_neg_of_neg_of_pos h d
    exact Int.lt_of_not_ge fun h2 => by
      have := Int.mul_nonneg h2 (Int.le_of_lt hb)
      omega
theorem ratN_pos {a b : Int} (hb : 0 < b) : 0 < ratN a b ↔ 0 < a := by
  have c := rat_cross a b (by omega)
  have d := ratD_pos (a := a) (b := b) (by omega)
  constructor
  · intro h
    have z : 0 < a * ratD a b := by rw [← c]; exact Int.mul_pos h hb
    exact Int.pos_of_mul_pos_left z d
  · intro h
    have z : 0 < ratN a b * b := by rw [c]; exact Int.mul_pos h d
    exact Int.pos_of_mul_pos_left z hb
theorem abs_sgn (b a : Int) : (sgn b * a).natAbs = a.natAbs := by
  rw [Int.natAbs_mul]
  have s1 : (sgn b).natAbs = 1 := by
    unfold sgn
    split <;> rfl
  rw [s1, Nat.one_mul]
theorem ratN_abs {a b : Int} (hb : b ≠ 0) : (ratN a b).natAbs ≤ a.natAbs := by
  have g := gcd_pos (a := a) hb
  have e := congrArg Int.natAbs (ratN_mul a b)
  rw [abs_sgn, Int.natAbs_mul, Int.natAbs_natCast] at e
  rw [← e]
  exact Nat.le_mul_of_pos_right _ g
theorem ratD_abs {a b : Int} (hb : b ≠ 0) : (ratD a b).natAbs ≤ b.natAbs := by
  have g := gcd_pos (a := a) hb
  have e := congrArg Int.natAbs (ratD_mul a b)
  rw [abs_sgn, Int.natAbs_mul, Int.natAbs_natCast] at e
  rw [← e]
  exact Nat.le_mul_of_pos_right _ g
theorem back_minus {x y u v : Int} (hx : Red x y) (hu : Red u v) : ratN (ratN (x * v + u * y) (y * v) * v - u * ratD (x * v + u * y) (y * v)) (ratD (x * v + u * y) (y * v) * v) = x ∧ ratD (ratN (x * v + u * y) (y * v) * v - u * ratD (x * v + u * y) (y * v)) (ratD (x * v + u * y) (y * v) * v) = y := by
  have hb : y * v ≠ 0 := Int.ne_of_gt (Int.mul_pos hx.1 hu.1)
  have c := rat_cross (x * v + u * y) (y * v) hb
  have d := ratD_pos (a := x * v + u * y) hb
  generalize ratN (x * v + u * y) (y * v) = n at c ⊢
  generalize ratD (x * v + u * y) (y * v) = m at c d ⊢
  refine rat_is (Int.ne_of_gt (Int.mul_pos d hu.1)) hx ?_
  grind
theorem back_plus {x y u v : Int} (hx : Red x y) (hu : Red u v) : ratN (ratN (x * v - u * y) (y * v) * v + u * ratD (x * v - u * y) (y * v)) (ratD (x * v - u * y) (y * v) * v) = x ∧ ratD (ratN (x * v - u * y) (y * v) * v + u * ratD (x * v - u * y) (y * v)) (ratD (x * v - u * y) (y * v) * v) = y := by
  have hb : y * v ≠ 0 := Int.ne_of_gt (Int.mul_pos hx.1 hu.1)
  have c := rat_cross (x * v - u * y) (y * v) hb
  have d := ratD_pos (a := x * v - u * y) hb
  generalize ratN (x * v - u * y) (y * v) = n at c ⊢
  generalize ratD (x * v - u * y) (y * v) = m at c d ⊢
  refine rat_is (Int.ne_of_gt (Int.mul_pos d hu.1)) hx ?_
  grind
theorem back_over {x y u v : Int} (hx : Red x y) (hu : Red u v) (h0 : u ≠ 0) : ratN (ratN (x * u) (y * v) * v) (ratD (x * u) (y * v) * u) = x ∧ ratD (ratN (x * u) (y * v) * v) (ratD (x * u) (y * v) * u) = y := by
  have hb : y * v ≠ 0 := Int.ne_of_gt (Int.mul_pos hx.1 hu.1)
  have c := rat_cross (x * u) (y * v) hb
  have d := ratD_pos (a := x * u) hb
  generalize ratN (x * u) (y * v) = n at c ⊢
  generalize ratD (x * u) (y * v) = m at c d ⊢
  refine rat_is (Int.mul_ne_zero (Int.ne_of_gt d) h0) hx ?_
  grind
end SG

namespace SG
open PySem PySem.Spec PyProof.Rows L2
def topS (i : Nat) : Stmt := PySem.Challenge.pw_serialhouse_k38_fractions.main.body.getD i (.Pass ⟨0, 0, 0, 0⟩)
abbrev s_figures_of : Stmt := topS 3
abbrev N_figures_of : List Str := ["number", "parts", "low"]
theorem sc_figures_of : FnScope N_figures_of ["number"] (defScope s_figures_of) := ⟨rfl, rfl, rfl, by decide +kernel, rfl, by decide +kernel, by decide +kernel⟩
abbrev s_is_integer : Stmt := topS 5
abbrev N_is_integer : List Str := ["thing"]
theorem sc_is_integer : FnScope N_is_integer ["thing"] (defScope s_is_integer) := ⟨rfl, rfl, rfl, by decide +kernel, rfl, by decide +kernel, by decide +kernel⟩
abbrev s_is_tuple_of : Stmt := topS 6
abbrev N_is_tuple_of : List Str := ["thing", "many"]
theorem sc_is_tuple_of : FnScope N_is_tuple_of ["thing", "many"] (defScope s_is_tuple_of) := ⟨rfl, rfl, rfl, by decide +kernel, rfl, by decide +kernel, by decide +kernel⟩
abbrev s_is_fraction : Stmt := topS 8
abbrev N_is_fraction : List Str := ["thing"]
theorem sc_is_fraction : FnScope N_is_fraction ["thing"] (defScope s_is_fraction) := ⟨rfl, rfl, rfl, by decide +kernel, rfl, by decide +kernel, by decide +kernel⟩
abbrev s_fraction : Stmt := topS 9
abbrev N_fraction : List Str := ["top", "bottom", "divisor"]
theorem sc_fraction : FnScope N_fraction ["top", "bottom"] (defScope s_fraction) := ⟨rfl, rfl, rfl, by decide +kernel, rfl, by decide +kernel, by decide +kernel⟩
abbrev s_plus : Stmt := topS 10
abbrev N_plus : List Str := ["one", "other"]
theorem sc_plus : FnScope N_plus ["one", "other"] (defScope s_plus) := ⟨rfl, rfl, rfl, by decide +kernel, rfl, by decide +kernel, by decide +kernel⟩
abbrev s_minus : Stmt := topS 11
abbrev N_minus : List Str := ["one", "other"]
theorem sc_minus : FnScope N_minus ["one", "other"] (defScope s_minus) := ⟨rfl, rfl, rfl, by decide +kernel, rfl, by decide +kernel, by decide +kernel⟩
abbrev s_times : Stmt := topS 12
abbrev N_times : List Str := ["one", "other"]
theorem sc_times : FnScope N_times ["one", "other"] (defScope s_times) := ⟨rfl, rfl, rfl, by decide +kernel, rfl, by decide +kernel, by decide +kernel⟩
abbrev s_over : Stmt := topS 13
abbrev N_over : List Str := ["one", "other"]
theorem sc_over : FnScope N_over ["one", "other"] (defScope s_over) := ⟨rfl, rfl, rfl, by decide +kernel, rfl, by decide +kernel, by decide +kernel⟩
abbrev s_is_less : Stmt := topS 14
abbrev N_is_less : List Str := ["one", "other"]
theorem sc_is_less : FnScope N_is_less ["one", "other"] (defScope s_is_less) := ⟨rfl, rfl, rfl, by decide +kernel, rfl, by decide +kernel, by decide +kernel⟩
abbrev s_fraction_text : Stmt := topS 15
abbrev N_fraction_text : List Str := ["one", "top", "bottom", "sign", "below"]
theorem sc_fraction_text : FnScope N_fraction_text ["one"] (defScope s_fraction_text) := ⟨rfl, rfl, rfl, by decide +kernel, rfl, by decide +kernel, by decide +kernel⟩
abbrev s__law_deck : Stmt := topS 17
abbrev N__law_deck : List Str := ["_law_script", "_law_cells", "_law_mixed", "_law_cell"]
theorem sc__law_deck : FnScope N__law_deck ["_law_script"] (defScope s__law_deck) := ⟨rfl, rfl, rfl, by decide +kernel, rfl, by decide +kernel, by decide +kernel⟩
abbrev s__law_draw : Stmt := topS 18
abbrev N__law_draw : List Str := ["_law_deck_here", "_law_much", "_law_turn", "_law_made", "_law_cell"]
theorem sc__law_draw : FnScope N__law_draw ["_law_deck_here", "_law_much"] (defScope s__law_draw) := ⟨rfl, rfl, rfl, by decide +kernel, rfl, by decide +kernel, by decide +kernel⟩
abbrev s__law_pick : Stmt := topS 19
abbrev N__law_pick : List Str := ["_law_deck_here", "_law_some"]
theorem sc__law_pick : FnScope N__law_pick ["_law_deck_here", "_law_some"] (defScope s__law_pick) := ⟨rfl, rfl, rfl, by decide +kernel, rfl, by decide +kernel, by decide +kernel⟩
abbrev s__law_ratio : Stmt := topS 20
abbrev N__law_ratio : List Str := ["_law_up", "_law_down", "_law_near", "_law_far", "_law_sign"]
theorem sc__law_ratio : FnScope N__law_ratio ["_law_up", "_law_down"] (defScope s__law_ratio) := ⟨rfl, rfl, rfl, by decide +kernel, rfl, by decide +kernel, by decide +kernel⟩
abbrev s__law_whole : Stmt := topS 21
abbrev N__law_whole : List Str := ["_law_deck_here", "_law_it"]
theorem sc__law_whole : FnScope N__law_whole ["_law_deck_here"] (defScope s__law_whole) := ⟨rfl, rfl, rfl, by decide +kernel, rfl, by decide +kernel, by decide +kernel⟩
abbrev s__law_is_whole : Stmt := topS 22
abbrev N__law_is_whole : List Str := ["_law_it"]
theorem sc__law_is_whole : FnScope N__law_is_whole ["_law_it"] (defScope s__law_is_whole) := ⟨rfl, rfl, rfl, by decide +kernel, rfl, by decide +kernel, by decide +kernel⟩
abbrev s__law_is_fraction : Stmt := topS 23
abbrev N__law_is_fraction : List Str := ["_law_it", "_law_x"]
theorem sc__law_is_fraction : FnScope N__law_is_fraction ["_law_it"] (defScope s__law_is_fraction) := ⟨rfl, rfl, rfl, by decide +kernel, rfl, by decide +kernel, by decide +kernel⟩
abbrev s__law_page : Stmt := topS 24
abbrev N__law_page : List Str := ["_law_it"]
theorem sc__law_page : FnScope N__law_page ["_law_it"] (defScope s__law_page) := ⟨rfl, rfl, rfl, by decide +kernel, rfl, by decide +kernel, by decide +kernel⟩
abbrev s__law_one_right : Stmt := topS 25
abbrev N__law_one_right : List Str := ["_law_it", "_law_was", "_law_due"]
theorem sc__law_one_right : FnScope N__law_one_right ["_law_it"] (defScope s__law_one_right) := ⟨rfl, rfl, rfl, by decide +kernel, rfl, by decide +kernel, by decide +kernel⟩
abbrev s__law_two_right : Stmt := topS 26
abbrev N__law_two_right : List Str := ["_law_x", "_law_y", "_law_less", "_law_more", "_law_whole_here", "_law_part"]
theorem sc__law_two_right : FnScope N__law_two_right ["_law_x", "_law_y"] (defScope s__law_two_right) := ⟨rfl, rfl, rfl, by decide +kernel, rfl, by decide +kernel, by decide +kernel⟩
abbrev s_law : Stmt := topS 27
abbrev N_law : List Str := ["_law_script", "_law_deck_here", "_law_turn", "_law_lot", "_law_go", "_law_up", "_law_down", "_law_due", "_law_x", "_law_some", "_law_k", "_law_it"]
theorem sc_law : FnScope N_law ["_law_script"] (defScope s_law) := ⟨rfl, rfl, rfl, by decide +kernel, rfl, by decide +kernel, by decide +kernel⟩
structure Txt (mg : Str → Option Value) : Prop where
  abs : mg "abs" = none
  bool : mg "bool" = none
  divmod : mg "divmod" = none
  gcd : mg "gcd" = some (.builtin "math.gcd")
  isinstance : mg "isinstance" = none
  int : mg "int" = none
  len : mg "len" = none
  list : mg "list" = none
  range : mg "range" = none
  repr : mg "repr" = none
  str : mg "str" = none
  tuple : mg "tuple" = none
  LIMIT : ∃ t, mg "LIMIT" = some (.int 10000000000000000000000000000000000000000000000000000000000000000 t)
section
variable {P : Program} {w : World} {K : PySem.W.Frag} {mg : Str → Option Value} {base : Heap}

def spDraw : Sp := fun vs H Q _ => ∃ (d l : Addr) (c : Nat) (k : Int), vs = [.ref d, .int k] ∧ Deck H d l c ∧ c < 1000000 ∧ 0 < k ∧ k < 1073741824 ∧
  ∀ (r : Int) (H2 : Hp), 0 ≤ r → r < k → Deck H2 d l (c + 1) → Kept d l H H2 → Q (.int r) H2
theorem ok_draw {f : Addr} {fd : FuncData} (F : Fun K "_law_draw" "_law_draw" s__law_draw f fd) (T : Txt mg) : GFn P w K mg base CX0 1 f fd ["_law_deck_here", "_law_much"] spDraw := by
  refine gfun_ok F sc__law_draw (fun vs H Q E h => ?_) (fun cdv A outer s H vs Q E hgu hr h => ?_)
  · obtain ⟨d, l, c, k, rfl, _⟩ := h
    rfl
  · obtain ⟨d, l, c, k, rfl, D, hc, k0, k1', q⟩ := h
    have nd := sc__law_draw.nd
    refine ⟨_, (pss_cons (ps_dput (hu_of hr) (pv 0) pe_str (pe_op op_add (pe_dget (hu_of hr) (pv 0) pe_str (fun _ _ => rfl)) pe_int) rfl)
      (pss_cons (ps_par (i := 2) (j := 3) rfl nd rfl rfl (by decide) rfl rfl (pa_cons (pe_dget (hu_of hr) (pv 0) pe_str (fun _ _ => rfl)) (pa_cons (pe_dget (hu_of hr) (pv 0) pe_str (fun _ _ => rfl)) pa_nil)) (by rfl))
      (C8.pss_cut (ps_if (pt_cmpR (k_neD (K := K) hr.units) (pe_dget (hu_of hr) (pv 0) pe_str (fun _ _ => rfl)) (pe_lst pa_nil) (nomark _)) (pss_cons (ps_set (i := 4) nd rfl (Or.inl rfl) (pe_bm0 PySem.F.plainAttrs_list PySem.F.slot_list_pop PySem.F.type_list_pop mt_pop (pe_dget (hu_of hr) (pv 0) pe_str (fun _ _ => rfl))))
      (pss_cons (ps_if (pt_cmpR op_ge (pv 4) (pe_op op_pow pe_int pe_int) (nomark _)) (pss_cons (ps_expr (pe_bm PySem.F.plainAttrs_list PySem.F.slot_list_append PySem.F.type_list_append mt_append (pe_dget (hu_of hr) (pv 0) pe_str (fun _ _ => rfl)) (pa_cons (pe_op op_fdiv (pv 4) (pv 1)) pa_nil)))
      (pss_one (ps_ret (pe_op op_mod (pe_callTy call_int1 (by rfl) T.int (by decide +kernel) (pa_cons (pv 4) pa_nil)) (pv 1))))) pss_nil)
      (pss_one (ps_set (i := 3) nd rfl (Or.inl rfl) (pe_op op_add (pv 3) (pe_op op_mod (pe_callTy call_int1 (by rfl) T.int (by decide +kernel) (pa_cons (pv 4) pa_nil)) pe_int)))))) pss_nil)
      (pss_cons (ps_set (i := 3) nd rfl (Or.inl rfl) (pe_op op_mod (pe_callTy call_int1 (by rfl) T.int (by decide +kernel) (pa_cons (pe_op op_add (pe_op op_add (pv 3) (pe_op op_mul (pe_op op_mul pe_int (pv 2)) (pv 2))) pe_int) pa_nil)) pe_int))
      (pss_cons (ps_set (i := 3) nd rfl (Or.inl rfl) (pe_op op_mod (pe_callTy call_int1 (by rfl) T.int (by decide +kernel) (pa_cons (pe_op op_mul (pv 3) pe_int) pa_nil)) pe_int))
      (pss_cons (ps_set (i := 3) nd rfl (Or.inl rfl) (pe_op op_mod (pe_callTy call_int1 (by rfl) T.int (by decide +kernel) (pa_cons (pe_op op_add (pe_op op_add (pe_op op_mul (pv 3) (pv 3)) (pe_op op_mul pe_int (pv 2))) pe_int) pa_nil)) pe_int))
      (pss_one (ps_ret (pe_op op_mod (pe_op op_fdiv (pe_op op_mod (pe_callTy call_int1 (by rfl) T.int (by decide +kernel) (pa_cons (pe_op op_mul (pv 3) pe_int) pa_nil)) pe_int) pe_int) (pv 1)))))))))), ?_⟩
    obtain ⟨cs, m, n, hd, hl, hm, hn, hcs⟩ := D
    have dl : d ≠ l := ne_of hd hl nofun
    -- the count goes on
    refine ⟨_, rfl, d, _, rfl, dgDraws hd, _, _, rfl, rfl, _, rfl, d, _, rfl, dpDraws (n + 1) hd, ?_⟩
    have hd1 : upd H d (.dK (deckO l m (n + 1))) d = some (.dK (deckO l m (n + 1))) := upd_same
    have hl1 : upd H d (.dK (deckO l m (n + 1))) l = some (.lst (cs.map V.int)) := by rw [upd_ne dl.symm]; exact hl
    have k1 : Kept d l H (upd H d (.dK (deckO l m (n + 1)))) := fun b o e h1 _ => by rw [upd_ne h1]; exact e
    generalize upd H d (.dK (deckO l m (n + 1))) = H1 at hd1 hl1 k1 ⊢
    refine ⟨_, rfl, d, _, rfl, dgDraws hd1, _, rfl, d, _, rfl, dgMixed hd1, _, _, rfl, ?_⟩
    -- the cell that is left, if there is one; behind it what stands
    refine ⟨fun σ' H' => ∃ (x : Int) (y4 : Option V), σ' = [some (.ref d), some (.int k), some (.int (n + 1)), some (.int x), y4] ∧ Kept d l H H' ∧ H' d = some (.dK (deckO l m (n + 1))) ∧ ∃ cs2 : List Int, H' l = some (.lst (cs2.map V.int)) ∧ cs2.length ≤ 63, ?_, ?_⟩
    · refine ⟨_, rfl, d, _, rfl, dgCells hd1, ?_⟩
      refine ⟨Nat.zero_le _, fun p np => ?_⟩
      have hd2 : upd H1 p (.lst []) d = some (.dK (deckO l m (n + 1))) := by rw [upd_ne (ne_of_none hd1 np)]; exact hd1
      have hl2 : upd H1 p (.lst []) l = some (.lst (cs.map V.int)) := by rw [upd_ne (ne_of_none hl1 np)]; exact hl1
      have k2 : Kept d l H (upd H1 p (.lst [])) := k1.trans (.of (same_new np))
      refine ⟨.list (dI cs), .list [], .lst (SqL.of hl2) (dpInts cs), .lst (SqL.of upd_same) .nil, shI cs, rfl, ?_⟩
      generalize upd H1 p (.lst []) = H2 at hd2 hl2 k2 ⊢
      refine ⟨!cs.isEmpty, by rw [eqvI_nil], ?_⟩
      rcases List.eq_nil_or_concat cs with rfl | ⟨c0, z, rfl⟩
      · exact iteF ⟨m, none, rfl, k2, hd2, [], hl2, by simp⟩
      · rw [List.concat_eq_append] at hl2 hcs ⊢
        refine ifT (by simp) ?_
        have hl3 : upd H2 l (.lst (c0.map V.int)) l = some (.lst (c0.map V.int)) := upd_same
        have hd3 : upd H2 l (.lst (c0.map V.int)) d = some (.dK (deckO l m (n + 1))) := by rw [upd_ne dl]; exact hd2
        have k3 : Kept d l H (upd H2 l (.lst (c0.map V.int))) := k2.trans fun b o e _ h2 => by rw [upd_ne h2]; exact e
        have el : ((c0 ++ [z]).map V.int).dropLast = c0.map V.int := by simp
        have ey : ((c0 ++ [z]).map V.int)[((c0 ++ [z]).map V.int).length - 1]? = some (.int z) := by simp
        -- the last cell is taken
        refine ⟨_, rfl, d, _, rfl, dgCells hd2, .inl ⟨rfl, _, SqL.of hl2⟩, l, _, _, rfl, rfl, hl2, ey, ?_⟩
        rw [el]
        generalize upd H2 l (.lst (c0.map V.int)) = H3 at hd3 hl3 k3 ⊢
        refine ⟨_, rfl, _, _, rfl, rfl, ⟨by decide, by decide, by decide⟩, _, _, rfl, rfl, _, rfl, ite2 (fun _ => ?_) (fun _ => ?_)⟩
        · refine ⟨_, rfl, d, _, rfl, dgCells hd3, .inl ⟨rfl, _, SqL.of hl3⟩, _, rfl, _, rfl, _, _, rfl, rfl, ⟨k0, k1'⟩, l, _, _, rfl, rfl, hl3, ?_, ?_⟩
          · rw [List.length_map]
            exact Nat.lt_of_lt_of_le (Nat.lt_succ_of_le (by simp at hcs; omega : c0.length ≤ 62)) (by decide)
          · have k4 : Kept d l H (upd H3 l (.lst (c0.map V.int ++ [.int (z / k)]))) := k3.trans fun b o e _ h2 => by rw [upd_ne h2]; exact e
            refine ⟨_, rfl, .inl ⟨_, rfl, _, rfl, _, _, rfl, rfl, k0, ?_⟩⟩
            refine q _ _ (mod_lo k0) (mod_hi k0) ⟨c0 ++ [z / k], m, n + 1, by rw [upd_ne dl]; exact hd3, by rw [upd_same, List.map_append]; rfl, hm, ⟨by omega, by omega⟩, ?_⟩ k4
            simp at hcs ⊢
            omega
        · refine ⟨_, rfl, _, rfl, .inl ⟨_, rfl, _, _, rfl, rfl, (by show (0 : Int) < _; decide), _, _, rfl, rfl, ?_⟩⟩
          exact ⟨m + z % 2147483629, some (.int z), rfl, k3, hd3, c0, hl3, by simp at hcs; omega⟩
    · rintro σ' H3 ⟨x, y4, rfl, k3, h3, cs2, h4, h5⟩
      have t1 : 0 < n + 1 := by omega
      have t2 : n + 1 ≤ 1000000 := by omega
      have t3 : n + 1 ≤ ((c + 1 : Nat) : Int) := by omega
      generalize n + 1 = t at t1 t2 t3 h3 ⊢
      refine ⟨_, rfl, _, rfl, _, _, rfl, rfl, .inl (by omega), _, rfl, _, _, rfl, rfl, .inl (by omega), _, _, rfl, rfl, _, _, rfl, rfl, .inl ⟨_, rfl, _, _, rfl, rfl, (by show (0 : Int) < _; decide), ?_⟩⟩
      have w0 := mod_lo (a := x + 60497 * t * t + 538) (b := 2147483629) (by decide)
      have w1 := mod_hi (a := x + 60497 * t * t + 538) (b := 2147483629) (by decide)
      generalize (x + 60497 * t * t + 538) % 2147483629 = g at w0 w1 ⊢
      refine ⟨_, rfl, _, _, rfl, rfl, .inl (by omega), .inl ⟨_, rfl, _, _, rfl, rfl, (by show (0 : Int) < _; decide), ?_⟩⟩
      have x0 := mod_lo (a := g * 40692) (b := 2147483647) (by decide)
      have x1 := mod_hi (a := g * 40692) (b := 2147483647) (by decide)
      generalize g * 40692 % 2147483647 = e at x0 x1 ⊢
      refine ⟨_, rfl, _, rfl, _, _, rfl, rfl, .inl (by omega), _, rfl, _, _, rfl, rfl, .inl (by omega), _, _, rfl, rfl, _, _, rfl, rfl, .inl ⟨_, rfl, _, _, rfl, rfl, (by show (0 : Int) < _; decide), ?_⟩⟩
      have y0 := mod_lo (a := e * e + 69621 * t + 545) (b := 2147483587) (by decide)
      have y1 := mod_hi (a := e * e + 69621 * t + 545) (b := 2147483587) (by decide)
      generalize (e * e + 69621 * t + 545) % 2147483587 = j at y0 y1 ⊢
      refine ⟨_, rfl, _, _, rfl, rfl, .inl (by omega), .inl ⟨_, rfl, _, _, rfl, rfl, (by show (0 : Int) < _; decide), _, _, rfl, rfl, ⟨by decide, by decide⟩, _, rfl, _, _, rfl, rfl, k0, ?_⟩⟩
      exact q _ _ (mod_lo k0) (mod_hi k0) ⟨cs2, m, t, h3, h4, hm, ⟨by omega, t3⟩, h5⟩ k3
end
end SG

namespace SG
open PySem PySem.Spec PyProof.Rows L2
section
variable {P : Program} {w : World} {K : PySem.W.Frag} {mg : Str → Option Value} {base : Heap}

def spDeck (K : PySem.W.Frag) : Sp := fun vs H Q _ => ∃ (a : Addr) (ns : List Int), vs = [.ref a] ∧ SqL K H a (ns.map V.int) ∧ ns.length ≤ 63 ∧
  ∀ (d l : Addr) (H2 : Hp), Deck H2 d l 0 → Same H H2 → Q (.ref d) H2
theorem ok_deck {f : Addr} {fd : FuncData} (F : Fun K "_law_deck" "_law_deck" s__law_deck f fd) (T : Txt mg) : GFn P w K mg base CX0 1 f fd ["_law_script"] (spDeck K) := by
  refine gfun_ok F sc__law_deck (fun vs H Q E h => ?_) (fun cdv A outer s H vs Q E hgu hr h => ?_)
  · obtain ⟨a, ns, rfl, _⟩ := h
    rfl
  · obtain ⟨a, ns, rfl, hS, hlen, q⟩ := h
    have nd := sc__law_deck.nd
    refine ⟨_, (pss_cons (ps_par (i := 1) (j := 2) rfl nd rfl rfl (by decide) rfl rfl (pa_cons (pe_callTy (k_listOf (K := K)) (by rfl) T.list (by decide +kernel) (pa_cons (pe_slice (k_slL (K := K)) (pv 0) po_none (po_some pe_int)) pa_nil)) (pa_cons pe_int pa_nil)) (by rfl))
      (pss_cons (ps_for PassesOwn.never rfl (pi_list (pv 1)) (pg_name (i := 3) nd rfl (Or.inl rfl))
        (pss_one (ps_set (i := 2) nd rfl (Or.inl rfl) (pe_op op_mod (pe_callTy call_int1 (by rfl) T.int (by decide +kernel) (pa_cons (pe_op op_add (pe_op op_add (pe_op op_mul (pv 2) pe_int) (pe_op op_mod (pe_callTy call_int1 (by rfl) T.int (by decide +kernel) (pa_cons (pv 3) pa_nil)) pe_int)) pe_int) pa_nil)) pe_int))))
      (pss_one (ps_ret (pe_disp (pps_cons pe_str (k_rev (K := K) (pv 1)) (pps_cons pe_str (pv 2) (pps_cons pe_str pe_int pps_nil))) (by rfl) (by rfl) (fun z => by cases z) (by decide)))))), ?_⟩
    -- the script's copy
    refine ⟨.ref a, rfl, 63, rfl, a, _, rfl, hS, fun p np => ?_⟩
    have s1 : Same H (upd H p (.lst (cutV (ns.map V.int) none (some 63)))) := same_new np
    have e1 : cutV (ns.map V.int) none (some 63) = ns.map V.int := by
      unfold cutV
      rw [HT.sIx_none, show HT.sIx (ns.map V.int).length (ns.map V.int).length (some 63) = min 63 (ns.map V.int).length from HT.sIx_nat _ _ 63]
      rw [show min 63 (ns.map V.int).length = (ns.map V.int).length by rw [List.length_map]; omega]
      exact List.take_of_length_le (Nat.le_refl _)
    rw [e1] at s1 ⊢
    refine ⟨p, _, rfl, .inl (SqL.of upd_same), fun l nl => ?_⟩
    have s2 : Same H (upd (upd H p (.lst (ns.map V.int))) l (.lst (ns.map V.int))) := s1.trans (same_new nl)
    have hl : (upd (upd H p (.lst (ns.map V.int))) l (.lst (ns.map V.int))) l = some (.lst (ns.map V.int)) := upd_same
    generalize (upd (upd H p (.lst (ns.map V.int))) l (.lst (ns.map V.int))) = H1 at s2 hl ⊢
    refine ⟨_, _, rfl, ?_⟩
    -- the figure
    refine ⟨_, rfl, l, rfl, ⟨_, SqL.of hl⟩, for_list (K := K) (a := l) (xs := ns.map V.int) (fun i σ H2 => ∃ (m : Int) (y : Option V), σ = [some (.ref a), some (.ref l), some (.int m), y] ∧ (0 ≤ m ∧ m < 2147483648) ∧ H2 = H1)
      ⟨1086538, none, rfl, ⟨by decide, by decide⟩, rfl⟩ (fun i σ H2 _ ⟨_, _, _, _, e⟩ => e ▸ SqL.of hl) ?_ ?_⟩
    · rintro i y σ H2 hi ⟨m, y3, rfl, hm, rfl⟩
      obtain ⟨z, rfl⟩ : ∃ z, y = V.int z := by
        rw [List.getElem?_map] at hi
        obtain ⟨z, _, e⟩ := Option.map_eq_some_iff.mp hi
        exact ⟨z, e.symm⟩
      have u0 := mod_lo (a := z) (b := 2147483629) (by decide)
      have u1 := mod_hi (a := z) (b := 2147483629) (by decide)
      refine ⟨_, rfl, _, _, rfl, rfl, .inl (by omega), _, rfl, .inl ⟨_, rfl, _, _, rfl, rfl, (by show (0 : Int) < _; decide), _, _, rfl, rfl, _, _, rfl, rfl, .inl ⟨_, rfl, _, _, rfl, rfl, (by show (0 : Int) < _; decide), ?_⟩⟩⟩
      exact ⟨_, _, rfl, ⟨mod_lo (by decide), Int.lt_trans (mod_hi (by decide)) (by decide)⟩, rfl⟩
    · rintro σ H2 ⟨m, y3, rfl, hm, rfl⟩
      -- the deck
      refine fun d nd1 => ?_
      have t2 : Same H (upd H2 d (.dK [])) := s2.trans (same_new nd1)
      have hl3 : (upd H2 d (.dK [])) l = some (.lst (ns.map V.int)) := by rw [upd_ne (ne_of_none hl nd1)]; exact hl
      have hd3 : (upd H2 d (.dK [])) d = some (.dK []) := upd_same
      generalize upd H2 d (.dK []) = H3 at t2 hl3 hd3 ⊢
      refine ⟨.ref l, rfl, l, _, rfl, SqL.of hl3, fun r nr => ?_⟩
      have t4 : Same H (upd H3 r (.lst (ns.map V.int).reverse)) := t2.trans (same_new nr)
      have hd4 : (upd H3 r (.lst (ns.map V.int).reverse)) d = some (.dK []) := by rw [upd_ne (ne_of_none hd3 nr)]; exact hd3
      have hr4 : (upd H3 r (.lst (ns.map V.int).reverse)) r = some (.lst (ns.reverse.map V.int)) := by rw [upd_same, List.map_reverse]
      have nd0 : H d = none := s2.free nd1
      have nr0 : r ≠ d := (ne_of_none hd3 nr).symm
      generalize upd H3 r (.lst (ns.map V.int).reverse) = H4 at t4 hd4 hr4 ⊢
      refine ⟨_, rfl, hd4, deckO r m 0, rfl, (by show 3 ≤ 15; decide), ?_⟩
      rw [deck_made]
      refine q d r _ ⟨ns.reverse, m, 0, upd_same, by rw [upd_ne nr0]; exact hr4, hm, ⟨by decide, by decide⟩, by rw [List.length_reverse]; exact hlen⟩ fun b o e => ?_
      rw [upd_ne (ne_of_none e nd0)]
      exact t4 _ _ e

/-- one of a list's, a sign of a text -/
def spPick (K : PySem.W.Frag) : Sp := fun vs H Q _ => ∃ (d l : Addr) (c : Nat), Deck H d l c ∧ c < 1000000 ∧
  ((∃ (a : Addr) (xs : List V), vs = [.ref d, .ref a] ∧ SqL K H a xs ∧ a ≠ l ∧ xs ≠ [] ∧ xs.length ≤ 1000 ∧ ∀ (x : V) (H2 : Hp), x ∈ xs → Deck H2 d l (c + 1) → Kept d l H H2 → Q x H2) ∨
   (∃ z : Str, vs = [.ref d, .str z] ∧ 0 < z.length ∧ z.length ≤ 1000 ∧ ∀ (g : Nat) (H2 : Hp), g ∈ z.cps.toList → Deck H2 d l (c + 1) → Kept d l H H2 → Q (.str ⟨#[g]⟩) H2))
theorem ok_pick {f f1 : Addr} {fd fd1 : FuncData} (F : Fun K "_law_pick" "_law_pick" s__law_pick f fd) (F__law_draw : Fun K "_law_draw" "_law_draw" s__law_draw f1 fd1) (m__law_draw : mg "_law_draw" = some (.ref f1)) (b__law_draw : Binds K fd1 ["_law_deck_here", "_law_much"] []) (T : Txt mg) : GFn P w K mg base CX0 2 f fd ["_law_deck_here", "_law_some"] (spPick K) := by
  have G__law_draw : GFn P w K mg base CX0 1 f1 fd1 ["_law_deck_here", "_law_much"] spDraw := ok_draw F__law_draw T
  refine gfun_ok F sc__law_pick (fun vs H Q E h => ?_) (fun cdv A outer s H vs Q E hgu hr h => ?_)
  · obtain ⟨d, l, c, D, hc, ⟨a, xs, rfl, _⟩ | ⟨z, rfl, _⟩⟩ := h
    · rfl
    · rfl
  · obtain ⟨d, l, c, D, hc, h⟩ := h
    have nd := sc__law_pick.nd
    refine ⟨_, (pss_one (ps_ret (pe_ix (k_ix (K := K)) (pv 1) (pe_g G__law_draw hgu (hr.mono (by decide)) (by rfl) m__law_draw F__law_draw.kp b__law_draw .nil pass0 (pa_cons (pv 0) (pa_cons (pe_callB call_len (by rfl) T.len (by decide +kernel) (pa_cons (pv 1) pa_nil)) pa_nil))) (fun _ _ => rfl)))), ?_⟩
    rcases h with ⟨a, xs, rfl, hS, al, ne, hlen, q⟩ | ⟨z, rfl, z0, z1, q⟩
    · have pos : 0 < xs.length := List.length_pos_iff.mpr ne
      refine ⟨_, rfl, _, rfl, _, rfl, _, _, rfl, .inl ⟨xs, hS, rfl⟩, d, l, c, _, rfl, D, hc, by omega, by omega, fun r H2 r0 r1 D2 k2 => ?_⟩
      have hS2 := k2.lst D al hS
      obtain ⟨i, rfl⟩ : ∃ i : Nat, r = (i : Int) := ⟨r.toNat, by omega⟩
      have hi : i < xs.length := by omega
      exact .inl ⟨a, xs, i, xs[i], rfl, rfl, hS2, atI_nat (List.getElem?_eq_getElem hi), q _ _ (List.getElem_mem hi) D2 k2⟩
    · have ez : z.cps.toList.length = z.length := by simp [Str.length]
      have sz : z.length ≤ sizeLine := Nat.le_of_lt (small1000 z1)
      refine ⟨_, rfl, _, rfl, _, rfl, _, _, rfl, ⟨sz, rfl⟩, d, l, c, _, rfl, D, hc, by omega, by omega, fun r H2 r0 r1 D2 k2 => ?_⟩
      obtain ⟨i, rfl⟩ : ∃ i : Nat, r = (i : Int) := ⟨r.toNat, by omega⟩
      have hi : i < z.cps.toList.length := by omega
      exact .inr (.inr ⟨z, i, z.cps.toList[i], rfl, rfl, sz, atI_nat (List.getElem?_eq_getElem hi), q _ _ (List.getElem_mem hi) D2 k2⟩)
end
end SG

namespace SG
open PySem PySem.Spec PyProof.Rows L2 TL
open SX (S S_tl S_len S_cat)
section
variable {P : Program} {w : World} {K : PySem.W.Frag} {mg : Str → Option Value} {base : Heap}
theorem abs_nat (a : Int) : (if a < 0 then -a else a) = (a.natAbs : Int) := by
  split <;> omega
theorem sign_tell {σ : L2.St} {H : Hp} {Q : VK} {i : Nat} {b : Int} (e : σ[i]? = some (some (.int b))) (q : Q (.int (sgn b)) H) : tIf (tTest (tOp (rI0 fun i j => V.bl (decide (j < i))) (tVar i) (tC (V.int 0)))) (tC (V.int 1)) (tUn (rU fun i => V.int (-i)) (tC (V.int 1))) σ H Q := by
  refine ⟨_, e, _, _, rfl, rfl, _, rfl, ite2 (fun h => ?_) (fun h => ?_)⟩
  · have h := of_decide_eq_true h
    unfold sgn at q
    rw [if_pos h] at q
    exact q
  · have h : ¬ (0 < b) := fun z => h (decide_eq_true z)
    unfold sgn at q
    rw [if_neg h] at q
    exact ⟨1, rfl, q⟩
theorem sgn_small (b x : Int) : CMul (sgn b) x := by
  refine .inl ?_
  unfold sgn
  split <;> decide
def Fits (a : Int) : Prop := a.natAbs < 2 ^ 2000
def spRatio (K : PySem.W.Frag) : Sp := fun vs H Q _ => ∃ (a b : Int), vs = [.int a, .int b] ∧ b ≠ 0 ∧ Fits a ∧ Fits b ∧
  ∀ (p : Addr) (H2 : Hp), Same H H2 → SqT K H2 p [.int (ratN a b), .int (ratD a b)] → Q (.ref p) H2
theorem ok_ratio {f : Addr} {fd : FuncData} (F : Fun K "_law_ratio" "_law_ratio" s__law_ratio f fd) (T : Txt mg) : GFn P w K mg base CX0 1 f fd ["_law_up", "_law_down"] (spRatio K) := by
  refine gfun_ok F sc__law_ratio (fun vs H Q E h => ?_) (fun cdv A outer s H vs Q E hgu hr h => ?_)
  · obtain ⟨a, b, rfl, _⟩ := h
    rfl
  · obtain ⟨a, b, rfl, hb, fa, fb, q⟩ := h
    have nd := sc__law_ratio.nd
    refine ⟨_, (pss_cons (ps_par (i := 2) (j := 3) rfl nd rfl rfl (by decide) rfl rfl (pa_cons (pe_callB call_abs (by rfl) T.abs (by decide +kernel) (pa_cons (pv 0) pa_nil)) (pa_cons (pe_callB call_abs (by rfl) T.abs (by decide +kernel) (pa_cons (pv 1) pa_nil)) pa_nil)) (by rfl))
      (pss_cons (ps_while PassesOwn.never (pt_cmpR op_gt (pv 3) pe_int (nomark _)) (pss_one (ps_par (i := 2) (j := 3) rfl nd rfl rfl (by decide) rfl rfl (pa_cons (pv 3) (pa_cons (pe_op op_mod (pv 2) (pv 3)) pa_nil)) (by rfl))))
      (pss_cons (ps_set (i := 4) nd rfl (Or.inl rfl) (pe_ifExp (pt_cmpR op_gt (pv 1) pe_int (nomark _)) pe_int (pe_un un_neg pe_int)))
      (pss_one (ps_ret (pe_tup (pa_cons (pe_op op_fdivW (pe_op op_mul (pv 4) (pv 0)) (pv 2)) (pa_cons (pe_op op_fdivW (pe_op op_mul (pv 4) (pv 1)) (pv 2)) pa_nil)))))))), ?_⟩
    refine ⟨_, rfl, _, rfl, _, rfl, _, rfl, _, _, rfl, ?_⟩
    rw [abs_nat, abs_nat]
    refine ⟨fun k σ HI => ∃ (n f : Nat), σ = [some (.int a), some (.int b), some (.int n), some (.int f), none] ∧ k = f ∧ HI = H ∧ Nat.gcd n f = Int.gcd a b ∧ n < 2 ^ 2000 ∧ f < 2 ^ 2000, ⟨_, _, _, rfl, rfl, rfl, rfl, fa, fb⟩, ?_⟩
    rintro k σ HI ⟨n, f, rfl, rfl, rfl, hg, hn, hf⟩
    refine ⟨_, rfl, _, _, rfl, rfl, _, rfl, ite2 (fun h0 => ?_) (fun h0 => ?_)⟩
    · have f0 : 0 < k := by
        have : (0 : Int) < (k : Int) := of_decide_eq_true h0
        exact Int.natCast_pos.mp this
      refine ⟨fun σ' H' => ∃ (n2 f2 : Nat), σ' = [some (.int a), some (.int b), some (.int n2), some (.int f2), none] ∧ f2 < k ∧ H' = HI ∧ Nat.gcd n2 f2 = Int.gcd a b ∧ n2 < 2 ^ 2000 ∧ f2 < 2 ^ 2000, ?_, ?_⟩
      · rintro σ' H' ⟨n2, f2, rfl, lt, rfl, h1, h2, h3⟩
        exact ⟨f2, lt, n2, f2, rfl, rfl, rfl, h1, h2, h3⟩
      · refine ⟨_, rfl, _, rfl, _, rfl, _, _, rfl, rfl, (Int.natCast_pos.mpr f0 : (0 : Int) < (k : Int)), _, _, rfl, ?_⟩
        refine ⟨k, n % k, ?_, Nat.mod_lt _ f0, rfl, ?_, hf, Nat.lt_trans (Nat.mod_lt _ f0) hf⟩
        · rw [Int.natCast_emod]
          rfl
        · rw [gcd_step]
          exact hg
    · have f0 : k = 0 := by
        have : ¬ ((0 : Int) < (k : Int)) := fun z => h0 (decide_eq_true z)
        exact Nat.eq_zero_of_not_pos fun z => this (Int.natCast_pos.mpr z)
      subst f0
      rw [Nat.gcd_zero_right] at hg
      subst hg
      refine sign_tell rfl ?_
      have g0 : (0 : Int) < (Int.gcd a b : Nat) := Int.natCast_pos.mpr (gcd_pos hb)
      have cd : ∀ x, CDivW x (Int.gcd a b : Nat) := fun x => wide_div (b := 2000) g0 (by rw [Int.natAbs_natCast]; exact hn) (by decide) (by decide)
      exact ⟨_, rfl, _, rfl, _, _, rfl, rfl, sgn_small b a, _, rfl, _, _, rfl, rfl, cd _, _, rfl, _, rfl, _, _, rfl, rfl, sgn_small b b, _, rfl, _, _, rfl, rfl, cd _, by show 2 ≤ sizeLine; decide, fun p np => q p _ (same_new np) (.inl (.inl upd_same))⟩
end
end SG

namespace SG
open PySem PySem.Spec PyProof.Rows L2 TL
open SX (S S_tl S_len S_cat)
section
variable {P : Program} {w : World} {K : PySem.W.Frag} {mg : Str → Option Value} {base : Heap}
abbrev someL : List V := [.int 0, .int 1, .int 2, .int 3, .int 4, .int 6, .int 12, .int 35, .int (2 ^ Int.toNat 40), .int (3 ^ Int.toNat 30), .int (10 ^ Int.toNat 20), .int (10 ^ Int.toNat 59 - 1), .int (6 ^ Int.toNat 64)]
theorem someL_in : ∀ x ∈ someL, ∃ z : Int, x = .int z ∧ z.natAbs < 10 ^ 59 := by
  intro x hx
  simp only [someL, List.mem_cons, List.not_mem_nil, or_false] at hx
  rcases hx with rfl | rfl | rfl | rfl | rfl | rfl | rfl | rfl | rfl | rfl | rfl | rfl | rfl
  all_goals exact ⟨_, rfl, by decide +kernel⟩
theorem more_tell {d l : Addr} {c : Nat} {σ : L2.St} {H : Hp} {Q : VK} {z : Int} (e0 : σ[0]? = some (some (.ref d))) (e1 : σ[1]? = some (some (.int z))) (D : Deck H d l c) (hc : c < 900010) (hz : z.natAbs < 10 ^ 59)
    (q : ∀ (y : Int) (H2 : Hp), y.natAbs < 10 ^ 60 → Deck H2 d l (c + 2) → Kept d l H H2 → Q (.int y) H2) :
    tIf (tTest (tOp rEq (tCall spDraw [] E0 (tCons (tVar 0) (tCons (tC (V.int 3)) tNil))) (tC (V.int 0)))) (tOp (rI0 fun i j => V.int (i + j)) (tVar 1) (tCall spDraw [] E0 (tCons (tVar 0) (tCons (tC (V.int 9)) tNil)))) (tVar 1) σ H Q := by
  have up : z.natAbs + 9 < 10 ^ 60 := Nat.lt_of_lt_of_le (Nat.add_lt_add_right hz 9) (by decide +kernel)
  refine ⟨_, e0, d, l, c, 3, rfl, D, by omega, by decide, by decide, fun r H2 r0 r1 D2 k2 => ⟨rfl, _, rfl, ite2 (fun _ => ?_) (fun _ => ?_)⟩⟩
  · refine ⟨_, e1, _, e0, d, l, c + 1, 9, rfl, D2, by omega, by decide, by decide, fun r2 H3 q0 q1 D3 k3 => ⟨_, _, rfl, rfl, q (z + r2) H3 (Nat.lt_of_le_of_lt (by omega : (z + r2).natAbs ≤ z.natAbs + 9) up) D3 (k2.trans k3)⟩⟩
  · exact ⟨_, e1, q z H2 (Nat.lt_of_le_of_lt (Nat.le_add_right _ 9) up) (D2.mono (by omega)) k2⟩
def spWhole (K : PySem.W.Frag) : Sp := fun vs H Q _ => ∃ (d l : Addr) (c : Nat), vs = [.ref d] ∧ Deck H d l c ∧ c < 900000 ∧
  ∀ (z : Int) (H2 : Hp), z.natAbs < 10 ^ 60 → Deck H2 d l (c + 4) → Kept d l H H2 → Q (.int z) H2
theorem ok_whole {f f1 f2 : Addr} {fd fd1 fd2 : FuncData} (F : Fun K "_law_whole" "_law_whole" s__law_whole f fd) (F__law_draw : Fun K "_law_draw" "_law_draw" s__law_draw f1 fd1) (m__law_draw : mg "_law_draw" = some (.ref f1)) (b__law_draw : Binds K fd1 ["_law_deck_here", "_law_much"] [])
    (F__law_pick : Fun K "_law_pick" "_law_pick" s__law_pick f2 fd2) (m__law_pick : mg "_law_pick" = some (.ref f2)) (b__law_pick : Binds K fd2 ["_law_deck_here", "_law_some"] []) (T : Txt mg) : GFn P w K mg base CX0 3 f fd ["_law_deck_here"] (spWhole K) := by
  have G__law_draw : GFn P w K mg base CX0 1 f1 fd1 ["_law_deck_here", "_law_much"] spDraw := ok_draw F__law_draw T
  have G__law_pick : GFn P w K mg base CX0 2 f2 fd2 ["_law_deck_here", "_law_some"] (spPick K) := ok_pick F__law_pick F__law_draw m__law_draw b__law_draw T
  refine gfun_ok F sc__law_whole (fun vs H Q E h => ?_) (fun cdv A outer s H vs Q E hgu hr h => ?_)
  · obtain ⟨d, l, c, rfl, _⟩ := h
    rfl
  · obtain ⟨d, l, c, rfl, D, hc, q⟩ := h
    have nd := sc__law_whole.nd
    refine ⟨_, (pss_cons (ps_set (i := 1) nd rfl (Or.inl rfl) (pe_g G__law_pick hgu (hr.mono (by decide)) (by rfl) m__law_pick F__law_pick.kp b__law_pick .nil pass0 (pa_cons (pv 0) (pa_cons (pe_lst (pa_cons pe_int (pa_cons pe_int (pa_cons pe_int (pa_cons pe_int (pa_cons pe_int (pa_cons pe_int (pa_cons pe_int (pa_cons pe_int (pa_cons (pe_op op_pow pe_int pe_int) (pa_cons (pe_op op_pow pe_int pe_int) (pa_cons (pe_op op_pow pe_int pe_int) (pa_cons (pe_op op_sub (pe_op op_pow pe_int pe_int) pe_int) (pa_cons (pe_op op_pow pe_int pe_int) pa_nil)))))))))))))) pa_nil))))
      (pss_cons (ps_set (i := 1) nd rfl (Or.inl rfl) (pe_ifExp (pt_cmpR op_eq (pe_g G__law_draw hgu (hr.mono (by decide)) (by rfl) m__law_draw F__law_draw.kp b__law_draw .nil pass0 (pa_cons (pv 0) (pa_cons pe_int pa_nil))) pe_int (nomark _)) (pe_op op_add (pv 1) (pe_g G__law_draw hgu (hr.mono (by decide)) (by rfl) m__law_draw F__law_draw.kp b__law_draw .nil pass0 (pa_cons (pv 0) (pa_cons pe_int pa_nil)))) (pv 1)))
      (pss_one (ps_ret (pe_ifExp (pt_cmpR op_gt (pe_g G__law_draw hgu (hr.mono (by decide)) (by rfl) m__law_draw F__law_draw.kp b__law_draw .nil pass0 (pa_cons (pv 0) (pa_cons pe_int pa_nil))) pe_int (nomark _)) (pv 1) (pe_un un_neg (pv 1))))))), ?_⟩
    have cp : ∀ {i j : Int}, 0 ≤ j → j ≤ 1000000 → i.natAbs < 2 ^ 64 → CPow i j := fun h1 h2 h3 => ⟨h1, h2, h3⟩
    refine ⟨_, rfl, _, _, rfl, rfl, cp (by decide) (by decide) (by decide), _, _, rfl, rfl, cp (by decide) (by decide) (by decide), _, _, rfl, rfl, cp (by decide) (by decide) (by decide), _, _, rfl, rfl, cp (by decide) (by decide) (by decide), _, _, rfl, rfl, _, _, rfl, rfl, cp (by decide) (by decide) (by decide), (by show 13 ≤ sizeLine; decide), fun a na => ?_⟩
    obtain ⟨ad, al⟩ := D.ne na
    change tNil _ (upd H a (.lst someL)) _
    have D1 := D.upd (o := .lst someL) na
    have k1 : Kept d l H _ := .of (same_new (o := .lst someL) na)
    have ha : (upd H a (.lst someL)) a = some (.lst someL) := upd_same
    generalize upd H a (.lst someL) = H1 at D1 k1 ha ⊢
    refine ⟨d, l, c, D1, by omega, .inl ⟨a, someL, rfl, SqL.of ha, al, by simp, (by show 13 ≤ 1000; decide), fun x H2 hx D2 k2 => ?_⟩⟩
    obtain ⟨z, rfl, hz⟩ := someL_in x hx
    refine more_tell rfl rfl D2 (by omega) hz fun y H3 hy D3 k3 => ?_
    have k3' := (k1.trans k2).trans k3
    refine ⟨_, rfl, d, l, _, 3, rfl, D3, by omega, by decide, by decide, fun r H4 r0 r1 D4 k4 => ⟨_, _, rfl, rfl, _, rfl, ite2 (fun _ => ?_) (fun _ => ?_)⟩⟩
    · exact ⟨_, rfl, q y H4 hy (D4.mono (by omega)) (k3'.trans k4)⟩
    · exact ⟨_, rfl, y, rfl, q (-y) H4 (by rw [Int.natAbs_neg]; exact hy) (D4.mono (by omega)) (k3'.trans k4)⟩
end
end SG

namespace SG
open PySem PySem.Spec PyProof.Rows L2 TL
open SX (S S_tl S_len S_cat)
section
variable {P : Program} {w : World} {K : PySem.W.Frag} {mg : Str → Option Value} {base : Heap}
def spIsWhole (K : PySem.W.Frag) : Sp := fun vs H Q _ => ∃ (x : V) (d : PyData), vs = [x] ∧ Dq K H x d ∧ Q (.bl (isInt d)) H
theorem ok_isWhole {f : Addr} {fd : FuncData} (F : Fun K "_law_is_whole" "_law_is_whole" s__law_is_whole f fd) (T : Txt mg) : GFn P w K mg base CX0 1 f fd ["_law_it"] (spIsWhole K) := by
  refine gfun_ok F sc__law_is_whole (fun vs H Q E h => ?_) (fun cdv A outer s H vs Q E hgu hr h => ?_)
  · obtain ⟨x, d, rfl, _⟩ := h
    rfl
  · obtain ⟨x, d, rfl, hd, q⟩ := h
    have nd := sc__law_is_whole.nd
    refine ⟨_, (pss_one (ps_ret (pe_and (pe_callB (k_isi (K := K)) (by rfl) T.isinstance (by decide +kernel) (pa_cons (pv 0) (pa_cons (pe_bltn (v := .ty "int") (by rfl) T.int (by decide +kernel) rfl) pa_nil))) (pe_one (pe_not (pe_callB (k_isi (K := K)) (by rfl) T.isinstance (by decide +kernel) (pa_cons (pv 0) (pa_cons (pe_bltn (v := .ty "bool") (by rfl) T.bool (by decide +kernel) rfl) pa_nil)))))))), ?_⟩
    refine ⟨_, rfl, _, _, _, _, _, rfl, .ty "int", dq_ty hd, isi_int hd, _, rfl, ?_⟩
    by_cases e : isIntLike d = true
    · refine ifT e ⟨_, rfl, _, _, _, _, _, rfl, .ty "bool", dq_ty hd, isi_bool hd, _, rfl, ?_⟩
      have z : (!isBool d) = isInt d := by cases d <;> simp [isIntLike, isBool, isInt] at e ⊢
      show Q (.bl (!isBool d)) H
      rw [z]
      exact q
    · refine ifF (by simpa using e) ?_
      have z : isInt d = false := by cases d <;> simp [isIntLike, isInt] at e ⊢
      rw [z] at q
      exact q
theorem dq_two {H : Hp} {x : V} {ds : List PyData} (h : Dq K H x (.tuple ds)) (hl : ds.length = 2) : ∃ a u v d e, x = .ref a ∧ ds = [d, e] ∧ SqT K H a [u, v] ∧ Dq K H u d ∧ Dq K H v e := by
  obtain ⟨a, xs, rfl, hS, hA⟩ := dq_tuple h
  obtain ⟨d, e, rfl⟩ : ∃ d e, ds = [d, e] := by
    rcases ds with _ | ⟨d, _ | ⟨e, _ | ⟨f, t⟩⟩⟩
    · cases hl
    · cases hl
    · exact ⟨d, e, rfl⟩
    · simp at hl
  cases hA with
  | cons h1 h2 =>
    cases h2 with
    | cons h3 h4 =>
      cases h4
      exact ⟨a, _, _, d, e, rfl, rfl, hS, .inl h1, .inl h3⟩
def isFracD : PyData → Bool
  | .tuple [.int a, .int b] => decide (1 ≤ b) && (Int.gcd a b == 1)
  | _ => false
theorem isFrac_shape {d : PyData} (h : isFracD d = true) : ∃ a b, d = .tuple [.int a, .int b] := by
  unfold isFracD at h
  split at h
  · exact ⟨_, _, rfl⟩
  · cases h
theorem frac_eqv {a b : Int} (h : 1 ≤ b) : PyData.eqv (.tuple [.int (ratN a b), .int (ratD a b)]) (.tuple [.int a, .int b]) = isFracD (.tuple [.int a, .int b]) := by
  have e : PyData.eqv (.tuple [.int (ratN a b), .int (ratD a b)]) (.tuple [.int a, .int b]) = ((ratN a b == a) && (ratD a b == b)) := by
    simp [PyData.eqv, PyData.eqvAll]
  rw [e]
  show _ = (decide (1 ≤ b) && (Int.gcd a b == 1))
  rw [decide_eq_true h, Bool.true_and]
  by_cases g : Int.gcd a b = 1
  · have z := rat_is (a := a) (b := b) (x := a) (y := b) (by omega) ⟨by omega, g⟩ rfl
    rw [z.1, z.2, g]
    simp
  · have z := (rat_red (a := a) (b := b) (by omega)).2
    have n : ¬ (ratN a b = a ∧ ratD a b = b) := fun h => g (by rw [h.1, h.2] at z; exact z)
    rw [show (Int.gcd a b == 1) = false by simpa using g]
    by_cases h1 : ratN a b = a
    · have h2 : ¬ ratD a b = b := fun h2 => n ⟨h1, h2⟩
      simp [h2]
    · simp [h1]
def spIsFrac (K : PySem.W.Frag) : Sp := fun vs H Q _ => ∃ (x : V) (d : PyData), vs = [x] ∧ Dq K H x d ∧ (d = .dict [] ∨ OkD d) ∧ (∀ ds, d = .tuple ds → ds.length ≤ 100) ∧ (∀ a b, d = .tuple [.int a, .int b] → Fits a ∧ Fits b) ∧ ∀ H2, Same H H2 → Q (.bl (isFracD d)) H2
theorem ok_isFrac {f f1 f2 : Addr} {fd fd1 fd2 : FuncData} (F : Fun K "_law_is_fraction" "_law_is_fraction" s__law_is_fraction f fd) (F__law_is_whole : Fun K "_law_is_whole" "_law_is_whole" s__law_is_whole f1 fd1) (m__law_is_whole : mg "_law_is_whole" = some (.ref f1)) (b__law_is_whole : Binds K fd1 ["_law_it"] [])
    (F__law_ratio : Fun K "_law_ratio" "_law_ratio" s__law_ratio f2 fd2) (m__law_ratio : mg "_law_ratio" = some (.ref f2)) (b__law_ratio : Binds K fd2 ["_law_up", "_law_down"] []) (T : Txt mg) : GFn P w K mg base CX0 2 f fd ["_law_it"] (spIsFrac K) := by
  have G__law_is_whole : GFn P w K mg base CX0 1 f1 fd1 ["_law_it"] (spIsWhole K) := ok_isWhole F__law_is_whole T
  have G__law_ratio : GFn P w K mg base CX0 1 f2 fd2 ["_law_up", "_law_down"] (spRatio K) := ok_ratio F__law_ratio T
  refine gfun_ok F sc__law_is_fraction (fun vs H Q E h => ?_) (fun cdv A outer s H vs Q E hgu hr h => ?_)
  · obtain ⟨x, d, rfl, _⟩ := h
    rfl
  · obtain ⟨x, d, rfl, hd, ok, few, ft, q⟩ := h
    have nd := sc__law_is_fraction.nd
    have no : isFracD d = false → ∀ H2, Same H H2 → Q (.bl false) H2 := fun h H2 s2 => by
      have z := q H2 s2
      rw [h] at z
      exact z
    refine ⟨_, (pss_cons (ps_if (PW.pt (pw_or (pt_not (pt_val (pe_callB (k_isi (K := K)) (by rfl) T.isinstance (by decide +kernel) (pa_cons (pv 0) (pa_cons (pe_bltn (v := .ty "tuple") (by rfl) T.tuple (by decide +kernel) rfl) pa_nil))))) (pw_or (pt_cmpR op_ne (pe_callB (k_len (K := K)) (by rfl) T.len (by decide +kernel) (pa_cons (pv 0) pa_nil)) pe_int (nomark _)) (pw_or (pt_cmpR (k_neD (K := K) hr.units) (pe_lc (own := [("_law_x", 1)]) rfl nd (pi_tup (pv 0)) (blkOk_by (N := N__law_is_fraction) (sc := defScope s__law_is_fraction) (by decide +kernel)) (fun _ _ _ _ _ => (pg_name (i := 1) nd rfl (Or.inl rfl))) (fun _ _ _ _ _ => (pts_one (pt_not (pt_val (pe_g G__law_is_whole hgu (hr.mono (by decide)) (by rfl) m__law_is_whole F__law_is_whole.kp b__law_is_whole .nil pass0 (pa_cons (pv 1) pa_nil)))))) (fun _ _ _ _ _ => (pv 1))) (pe_lst pa_nil) (nomark _)) (pw_or1 (pt_cmpR op_lt (pe_ix (k_ixT (K := K)) (pv 0) pe_int (fun _ _ => rfl)) pe_int (nomark _))))))) (pss_one (ps_ret pe_bl)) pss_nil)
      (pss_one (ps_ret (pe_cmpR (k_eqD (K := K) hr.units) (pe_g G__law_ratio hgu (hr.mono (by decide)) (by rfl) m__law_ratio F__law_ratio.kp b__law_ratio .nil pass0 (pa_cons (pe_ix (k_ixT (K := K)) (pv 0) pe_int (fun _ _ => rfl)) (pa_cons (pe_ix (k_ixT (K := K)) (pv 0) pe_int (fun _ _ => rfl)) pa_nil))) (pv 0) (nomark _))))), ?_⟩
    refine ⟨_, rfl, _, _, _, _, _, rfl, .ty "tuple", dq_ty hd, isi_tuple hd, _, rfl, ?_⟩
    by_cases e : isTup d = true
    · obtain ⟨ds, rfl⟩ : ∃ ds, d = .tuple ds := by cases d <;> simp [isTup] at e ⊢
      have okd : OkD (.tuple ds) := ok.resolve_left nofun
      have ld := few _ rfl
      obtain ⟨a, xs, rfl, hS, hA⟩ := dq_tuple hd
      have lx := dpA_len hA
      refine ifF (by rw [e]; rfl) ⟨_, rfl, a, _, rfl, .inr hS, rfl, _, rfl, ?_⟩
      by_cases l2 : xs.length = 2
      · refine ifF (by simp [l2]) ?_
        refine ⟨_, rfl, a, rfl, ⟨_, hS⟩, fun D nD => ?_⟩
        refine lc_tupF (K := K) (a := a) (xs := xs) (ds := ds) (fun d => !isInt d) (by omega) nD hS hA (by show 1 < 2; decide) (fun x d H3 hx hd3 R hR => ?_) (fun ys H3 s3 hD hY => ?_)
        · exact ⟨_, rfl, x, d, rfl, .inl hd3, _, rfl, hR⟩
        · refine ⟨Nat.zero_le _, fun r nr => ?_⟩
          have s4 : Same H (upd H3 r (.lst [])) := s3.trans (same_new nr)
          have hD4 := same_new (o := .lst []) nr _ _ hD
          have lay : PyData.canLayAll0 ds = true := by simpa only [PyData.canLay0] using okd.lay
          have dep : PyData.depthAll ds ≤ 60 := by
            have z2 := okd.dep
            simp only [PyData.depth] at z2
            omega
          refine ⟨.list (ds.filter fun d => !isInt d), .list [], .lst (SqL.of hD4) (dpA_same s4 hY), .lst (SqL.of upd_same) .nil, shaped_sub lay dep (fun e m => (List.mem_filter.mp m).1), rfl, ?_⟩
          generalize upd H3 r (.lst []) = H4 at s4 ⊢
          have pe : (!PyData.eqv (.list (ds.filter fun d => !isInt d)) (.list [])) = !(ds.all isInt) := by
            rw [eqv_nil]
            congr 1
            rw [Bool.eq_iff_iff, List.isEmpty_iff, List.filter_eq_nil_iff, List.all_eq_true]
            simp
          refine ⟨!(ds.all isInt), by rw [pe], ?_⟩
          obtain ⟨a', u, v, d1, d2, e1, rfl, hS2, hu, hv⟩ := dq_two hd (by rw [← lx]; exact l2)
          injection e1 with e1
          subst e1
          cases ep : [d1, d2].all isInt with
          | false =>
            refine ifT (by rfl) (no ?_ H4 s4)
            cases h : isFracD (.tuple [d1, d2]) with
            | false => rfl
            | true =>
              obtain ⟨z1, z2, e2⟩ := isFrac_shape h
              injection e2 with e2
              rw [e2] at ep
              cases ep
          | true =>
            obtain ⟨n1, rfl⟩ : ∃ n, d1 = .int n := by cases d1 <;> simp [isInt] at ep ⊢
            obtain ⟨n2, rfl⟩ : ∃ n, d2 = .int n := by cases d2 <;> simp [isInt] at ep ⊢
            obtain rfl : u = .int n1 := by
              rcases hu with h | ⟨h, _⟩
              · cases h; rfl
              · cases h
            obtain rfl : v = .int n2 := by
              rcases hv with h | ⟨h, _⟩
              · cases h; rfl
              · cases h
            have hS4 := sameT s4 hS2
            obtain ⟨f1, f2⟩ := ft n1 n2 rfl
            refine ifF (by rfl) ⟨_, rfl, a, _, 1, _, rfl, rfl, hS4, atI_nat (j := 1) rfl, _, _, rfl, rfl, _, rfl, ite2 (fun h0 => ?_) (fun h0 => ?_)⟩
            · have h0 := of_decide_eq_true h0
              refine no ?_ H4 s4
              show (decide (1 ≤ n2) && (Int.gcd n1 n2 == 1)) = false
              rw [decide_eq_false (by omega), Bool.false_and]
            · have h0 : 1 ≤ n2 := by
                have : ¬ (n2 < 1) := fun z => h0 (decide_eq_true z)
                omega
              refine ⟨_, rfl, a, _, 0, _, rfl, rfl, hS4, atI_nat (j := 0) rfl, _, rfl, a, _, 1, _, rfl, rfl, hS4, atI_nat (j := 1) rfl, n1, n2, rfl, by omega, f1, f2, fun p H5 s5 h5 => ?_⟩
              refine ⟨_, rfl, .tuple [.int (ratN n1 n2), .int (ratD n1 n2)], .tuple [.int n1, .int n2], .tup h5 (.cons (.int _) (.cons (.int _) .nil)), .tup (sameT s5 hS4) (.cons (.int _) (.cons (.int _) .nil)), ?_, ?_, ?_⟩
              · simp [SeqAt.shaped, PyData.canLay0, PyData.canLayAll0, PyData.depth, PyData.depthAll]
              · simp [SeqAt.shaped, PyData.canLay0, PyData.canLayAll0, PyData.depth, PyData.depthAll]
              · rw [frac_eqv h0]
                exact q H5 (s4.trans s5)
      · refine ifT (by simp [l2]; omega) ?_
        refine no ?_ H (Same.refl H)
        cases h : isFracD (.tuple ds) with
        | false => rfl
        | true =>
          obtain ⟨u, v, e2⟩ := isFrac_shape h
          injection e2 with e2
          rw [e2] at lx
          exact absurd lx l2
    · refine ifT (by simp [e]) ?_
      exact no (by cases d <;> simp [isTup, isFracD] at e ⊢) H (Same.refl H)
end
end SG

namespace SG
open PySem PySem.Spec PyProof.Rows L2 TL
open SX (S S_tl S_len S_cat)
section
variable {P : Program} {w : World} {K : PySem.W.Frag} {mg : Str → Option Value} {base : Heap}
theorem tellB (b : Bool) : OkD (.list [.bool b, .bool b]) := by
  refine ⟨by simp [PyData.canLay0, PyData.canLayAll0], ?_, by simp [tellable, tellableAll], by simp [PyData.leavesShort, PyData.leavesShortAll], ?_⟩
  · simp only [PyData.depth, PyData.depthAll]
    omega
  · simp only [PyData.bulk, PyData.bulkAll]
    omega
/-- a thing's text, whatever it is -/
theorem repr_any {H : Hp} {x : V} {d : PyData} (h : Dq K H x d) (ok : d = .dict [] ∨ OkD d) : ∃ t : Str, ∀ (H2 : Hp), Same H H2 → ∀ R : VK, R (.str t) H2 → rRepr K [x] H2 R := by
  rcases ok with rfl | ok
  · rcases h with h | ⟨_, a, rfl, ha⟩
    · cases h
    · exact ⟨_, fun H2 s2 R hR => ⟨_, rfl, .inr ⟨a, rfl, s2 _ _ ha, hR⟩⟩⟩
  · rcases h with h | ⟨rfl, _⟩
    · exact ⟨_, fun H2 s2 R hR => ⟨_, rfl, .inl ⟨d, dp_same s2 h, ok.tell, Nat.le_trans ok.dep (by decide), ok.shown, hR⟩⟩⟩
    · exact absurd ok.tell (by simp [tellable])

/-- what is asked of a thing that may be a fraction -/
def Item (K : PySem.W.Frag) (H : Hp) (x : V) (d : PyData) : Prop := Dq K H x d ∧ (d = .dict [] ∨ OkD d) ∧ (∀ ds, d = .tuple ds → ds.length ≤ 100) ∧ (∀ a b, d = .tuple [.int a, .int b] → Fits a ∧ Fits b)
theorem Item.same {H H2 : Hp} {x : V} {d : PyData} (s : Same H H2) (h : Item K H x d) : Item K H2 x d := ⟨dq_same s h.1, h.2⟩
def spOne (K : PySem.W.Frag) : Sp := fun vs H Q _ => ∃ (x : V) (d : PyData), vs = [x] ∧ Item K H x d ∧ ∀ H2, Same H H2 → Q (.bl true) H2
theorem ok_one {f f1 f2 f3 f4 : Addr} {fd fd1 fd2 fd3 fd4 : FuncData} (hdg : base.NoDigits) (F : Fun K "_law_one_right" "_law_one_right" s__law_one_right f fd) (F__law_is_whole : Fun K "_law_is_whole" "_law_is_whole" s__law_is_whole f1 fd1) (m__law_is_whole : mg "_law_is_whole" = some (.ref f1)) (b__law_is_whole : Binds K fd1 ["_law_it"] [])
    (F__law_ratio : Fun K "_law_ratio" "_law_ratio" s__law_ratio f2 fd2) (m__law_ratio : mg "_law_ratio" = some (.ref f2)) (b__law_ratio : Binds K fd2 ["_law_up", "_law_down"] [])
    (F__law_is_fraction : Fun K "_law_is_fraction" "_law_is_fraction" s__law_is_fraction f3 fd3) (m__law_is_fraction : mg "_law_is_fraction" = some (.ref f3)) (b__law_is_fraction : Binds K fd3 ["_law_it"] [])
    (G_is_fraction : GFn P w K mg base CX0 4 f4 fd4 ["thing"] (spIsFrac K)) (F_is_fraction : Fun K "is_fraction" "is_fraction" s_is_fraction f4 fd4) (m_is_fraction : mg "is_fraction" = some (.ref f4)) (b_is_fraction : Binds K fd4 ["thing"] []) (kb_is_fraction_thing : KBinds K fd4 ["thing"] ["thing"] kwOne kwOne) (T : Txt mg) :
    GFn P w K mg base CX0 5 f fd ["_law_it"] (spOne K) := by
  have G__law_is_fraction : GFn P w K mg base CX0 2 f3 fd3 ["_law_it"] (spIsFrac K) := ok_isFrac F__law_is_fraction F__law_is_whole m__law_is_whole b__law_is_whole F__law_ratio m__law_ratio b__law_ratio T
  refine gfun_ok F sc__law_one_right (fun vs H Q E h => ?_) (fun cdv A outer s H vs Q E hgu hr h => ?_)
  · obtain ⟨x, d, rfl, _⟩ := h
    rfl
  · obtain ⟨x, d, rfl, ⟨hd, ok, few, ft⟩, q⟩ := h
    have nd := sc__law_one_right.nd
    obtain ⟨t, told⟩ := repr_any hd ok
    refine ⟨_, (pss_cons (ps_par (i := 1) (j := 2) rfl nd rfl rfl (by decide) rfl rfl (pa_cons (pe_callB (k_repr (K := K) hdg hgu hr) (by rfl) T.repr (by decide +kernel) (pa_cons (pv 0) pa_nil)) (pa_cons (pe_g G__law_is_fraction hgu (hr.mono (by decide)) (by rfl) m__law_is_fraction F__law_is_fraction.kp b__law_is_fraction .nil pass0 (pa_cons (pv 0) pa_nil)) pa_nil)) (by rfl))
      (pss_one (ps_ret (pe_and (pe_cmpR op_eq (pe_callB (k_repr (K := K) hdg hgu hr) (by rfl) T.repr (by decide +kernel) (pa_cons (pe_lst (pa_cons (pe_g G_is_fraction hgu (hr.mono (by decide)) (by rfl) m_is_fraction F_is_fraction.kp b_is_fraction .nil pass0 (pa_cons (pv 0) pa_nil)) (pa_cons (pe_gK0 G_is_fraction hgu (hr.mono (by decide)) (by rfl) m_is_fraction F_is_fraction.kp kb_is_fraction_thing pass0 (pk_cons (pv 0) pk_nil)) pa_nil))) pa_nil)) (pe_callB (k_repr (K := K) hdg hgu hr) (by rfl) T.repr (by decide +kernel) (pa_cons (pe_lst (pa_cons (pv 2) (pa_cons (pv 2) pa_nil))) pa_nil)) (nomark _)) (pe_one (pe_cmpR op_eq (pe_callB (k_repr (K := K) hdg hgu hr) (by rfl) T.repr (by decide +kernel) (pa_cons (pv 0) pa_nil)) (pv 1) (nomark _))))))), ?_⟩
    refine ⟨_, rfl, ?_⟩
    dsimp only [tNil]
    refine told H (Same.refl H) _ ?_
    refine ⟨_, rfl, x, d, rfl, hd, ok, few, ft, fun H1 s1 => ⟨_, _, rfl, ?_⟩⟩
    refine ⟨_, rfl, x, d, rfl, dq_same s1 hd, ok, few, ft, fun H2 s2 => ⟨_, rfl, x, d, rfl, dq_same (s1.trans s2) hd, ok, few, ft, fun H3 s3 => ⟨by show 2 ≤ sizeLine; decide, fun p np => ?_⟩⟩⟩
    have ob := tellB (isFracD d)
    refine ⟨_, rfl, .inl ⟨.list [.bool (isFracD d), .bool (isFracD d)], .lst (SqL.of upd_same) (.cons (.bl _) (.cons (.bl _) .nil)), ob.tell, Nat.le_trans ob.dep (by decide), ob.shown, ?_⟩⟩
    refine ⟨_, rfl, _, rfl, by show 2 ≤ sizeLine; decide, fun p2 np2 => ?_⟩
    refine ⟨_, rfl, .inl ⟨.list [.bool (isFracD d), .bool (isFracD d)], .lst (SqL.of upd_same) (.cons (.bl _) (.cons (.bl _) .nil)), ob.tell, Nat.le_trans ob.dep (by decide), ob.shown, rfl, _, rfl, ?_⟩⟩
    refine ifT (by simp) ?_
    have s5 : Same H (upd (upd H3 p (.lst [.bl (isFracD d), .bl (isFracD d)])) p2 (.lst [.bl (isFracD d), .bl (isFracD d)])) := ((s1.trans s2).trans s3).trans ((same_new np).trans (same_new np2))
    refine ⟨_, rfl, ?_⟩
    dsimp only [tNil]
    refine told _ s5 _ ⟨_, rfl, rfl, ?_⟩
    have z : decide (V.str t = V.str t) = true := decide_eq_true rfl
    show Q (.bl (decide (V.str t = V.str t))) _
    rw [z]
    exact q _ s5
end
end SG

namespace SG
open PySem PySem.Spec PyProof.Rows L2 TL
open SX (S S_tl S_len S_cat)
section
variable {P : Program} {w : World} {K : PySem.W.Frag} {mg : Str → Option Value} {base : Heap}
/-- a fraction that stands at a place -/
def Small (a : Int) : Prop := a.natAbs < 2 ^ 900
def FracAt (K : PySem.W.Frag) (H : Hp) (p : Addr) (a b : Int) : Prop := SqT K H p [.int a, .int b] ∧ Red a b ∧ Small a ∧ Small b
theorem FracAt.same {H H2 : Hp} {p : Addr} {a b : Int} (s : Same H H2) (h : FracAt K H p a b) : FracAt K H2 p a b := ⟨sameT s h.1, h.2⟩
def spBin (K : PySem.W.Frag) (num den : Int → Int → Int → Int → Int) : Sp := fun vs H Q _ => ∃ (p q : Addr) (a b u v : Int), vs = [.ref p, .ref q] ∧ FracAt K H p a b ∧ FracAt K H q u v ∧ den a b u v ≠ 0 ∧
  ∀ (r : Addr) (H2 : Hp), Same H H2 → SqT K H2 r [.int (ratN (num a b u v) (den a b u v)), .int (ratD (num a b u v) (den a b u v))] → Q (.ref r) H2
abbrev spPlus (K : PySem.W.Frag) : Sp := spBin K (fun a b u v => a * v + u * b) (fun _ b _ v => b * v)
abbrev spMinus (K : PySem.W.Frag) : Sp := spBin K (fun a b u v => a * v - u * b) (fun _ b _ v => b * v)
abbrev spTimes (K : PySem.W.Frag) : Sp := spBin K (fun a _ u _ => a * u) (fun _ b _ v => b * v)
abbrev spOver (K : PySem.W.Frag) : Sp := spBin K (fun a _ _ v => a * v) (fun _ b u _ => b * u)
def spLess (K : PySem.W.Frag) : Sp := fun vs H Q _ => ∃ (p q : Addr) (a b u v : Int), vs = [.ref p, .ref q] ∧ FracAt K H p a b ∧ FracAt K H q u v ∧ ∀ H2, Same H H2 → Q (.bl (decide (a * v < u * b))) H2
/-- numbers as the law draws them -/
def Near (a : Int) : Prop := a.natAbs < 2 ^ 200
theorem mulW {a b : Int} (ha : Near a) (hb : Near b) : CMulW a b := wide_mul ha hb (by decide) (by decide) (by decide)
theorem near_mul {a b : Int} (ha : Near a) (hb : Near b) : (a * b).natAbs < 2 ^ 400 := wide_lt ha hb
theorem fits_mul {a b : Int} (ha : Near a) (hb : Near b) : Fits (a * b) := Nat.lt_trans (near_mul ha hb) (Nat.pow_lt_pow_right (by decide) (by decide))
theorem lt_401 {x y : Int} (hx : x.natAbs < 2 ^ 400) (hy : y.natAbs < 2 ^ 400) : (x + y).natAbs < 2 ^ 401 ∧ (x - y).natAbs < 2 ^ 401 := by
  have e : (2 : Nat) ^ 401 = 2 ^ 400 + 2 ^ 400 := by rw [Nat.pow_succ]; omega
  rw [e]
  generalize (2 : Nat) ^ 400 = M at hx hy ⊢
  constructor <;> omega
theorem fits_401 {x : Int} (h : x.natAbs < 2 ^ 401) : Fits x := Nat.lt_trans h (Nat.pow_lt_pow_right (by decide) (by decide))
theorem small_401 {x : Int} (h : x.natAbs < 2 ^ 401) : Small x := Nat.lt_trans h (Nat.pow_lt_pow_right (by decide) (by decide))
def fr (a b : Int) : PyData := .tuple [.int a, .int b]
theorem dp_fr {H : Hp} {p : Addr} {a b : Int} (h : SqT K H p [.int a, .int b]) : Dp K H (.ref p) (fr a b) := .tup h (.cons (.int _) (.cons (.int _) .nil))
theorem shaped_fr (a b : Int) : SeqAt.shaped (fr a b) = true := by simp [fr, SeqAt.shaped, PyData.canLay0, PyData.canLayAll0, PyData.depth, PyData.depthAll]
theorem eqv_fr (a b : Int) : PyData.eqv (fr a b) (fr a b) = true := by simp [fr, PyData.eqv, PyData.eqvAll]
theorem int_fits {x : Int} (h : Fits x) : x.natAbs < 10 ^ 4300 := Nat.lt_of_lt_of_le h (by decide +kernel)
theorem ok_fr {a b : Int} (ha : Fits a) (hb : Fits b) : OkD (fr a b) := by
  have d0 : ∀ i : Int, (PyData.int i).depth ≤ 49 := fun i => by simp only [PyData.depth]; omega
  have z : OkA [.int a, .int b] := .cons (.int (int_fits ha)) (d0 _) (.cons (.int (int_fits hb)) (d0 _) .nil)
  refine z.tuple ?_
  simp only [PyData.bulkAll, PyData.bulk]
  omega
theorem fr_dep (a b : Int) : (fr a b).depth ≤ 49 := by
  simp only [fr, PyData.depth, PyData.depthAll]
  omega
theorem ok_fr2 {a b c d : Int} (h1 : OkD (fr a b)) (h2 : OkD (fr c d)) : OkD (.list [fr a b, fr c d]) := by
  refine (OkA.cons h1 (fr_dep _ _) (OkA.cons h2 (fr_dep _ _) .nil)).list ?_
  simp only [fr, PyData.bulkAll, PyData.bulk]
  omega
theorem ok_fr3 {a b c d e f : Int} (h1 : OkD (fr a b)) (h2 : OkD (fr c d)) (h3 : OkD (fr e f)) : OkD (.list [fr a b, fr c d, fr e f]) := by
  refine (OkA.cons h1 (fr_dep _ _) (OkA.cons h2 (fr_dep _ _) (OkA.cons h3 (fr_dep _ _) .nil))).list ?_
  simp only [fr, PyData.bulkAll, PyData.bulk]
  omega
theorem ok_bl2 (b c : Bool) : OkD (.list [.bool b, .bool c]) := by
  refine ⟨by simp [PyData.canLay0, PyData.canLayAll0], ?_, by simp [tellable, tellableAll], by simp [PyData.leavesShort, PyData.leavesShortAll], ?_⟩
  · simp only [PyData.depth, PyData.depthAll]
    omega
  · simp only [PyData.bulk, PyData.bulkAll]
    omega
/-- the texts of two lists of the same data are not unlike -/
theorem rNe_same {t : Str} {H : Hp} {Q : VK} (q : Q (.bl false) H) : rNe (.str t) (.str t) H Q := ⟨rfl, by rw [decide_eq_true (rfl : V.str t = V.str t)]; exact q⟩
end
end SG

namespace SG
open PySem PySem.Spec PyProof.Rows L2 TL
open SX (S S_tl S_len S_cat)
section
variable {P : Program} {w : World} {K : PySem.W.Frag} {mg : Str → Option Value} {base : Heap}
theorem rEq_same {t : Str} {H : Hp} {Q : VK} (q : Q (.bl true) H) : rEq (.str t) (.str t) H Q := ⟨rfl, by rw [decide_eq_true (rfl : V.str t = V.str t)]; exact q⟩
def Ev (σ : L2.St) (H : Hp) (t : TE) (m : Int) : Prop := ∀ R : VK, R (.int m) H → t σ H R
section
variable {σ : L2.St} {H : Hp}
theorem Ev.ix0 {i : Nat} {p : Addr} {a b : Int} (e : σ[i]? = some (some (.ref p))) (h : SqT K H p [.int a, .int b]) : Ev σ H (tOp (rIxT K) (tVar i) (tC (V.int 0))) a := fun R q => ⟨_, e, p, _, 0, _, rfl, rfl, h, atI_nat (j := 0) rfl, q⟩
theorem Ev.ix1 {i : Nat} {p : Addr} {a b : Int} (e : σ[i]? = some (some (.ref p))) (h : SqT K H p [.int a, .int b]) : Ev σ H (tOp (rIxT K) (tVar i) (tC (V.int 1))) b := fun R q => ⟨_, e, p, _, 1, _, rfl, rfl, h, atI_nat (j := 1) rfl, q⟩
theorem Ev.mul {ta tb : TE} {m n : Int} (ha : Ev σ H ta m) (hb : Ev σ H tb n) (nm : Near m) (nn : Near n) : Ev σ H (tOp (rI CMulW fun i j => V.int (i * j)) ta tb) (m * n) := fun R q => ha _ (hb _ ⟨_, _, rfl, rfl, mulW nm nn, q⟩)
theorem Ev.sub {ta tb : TE} {m n : Int} (ha : Ev σ H ta m) (hb : Ev σ H tb n) : Ev σ H (tOp (rI0 fun i j => V.int (i - j)) ta tb) (m - n) := fun R q => ha _ (hb _ ⟨_, _, rfl, rfl, q⟩)
theorem Ev.add {ta tb : TE} {m n : Int} (ha : Ev σ H ta m) (hb : Ev σ H tb n) : Ev σ H (tOp (rI0 fun i j => V.int (i + j)) ta tb) (m + n) := fun R q => ha _ (hb _ ⟨_, _, rfl, rfl, q⟩)
theorem ratio_tell {t1 t2 : TE} {m n : Int} {Q : VK} (h1 : Ev σ H t1 m) (h2 : Ev σ H t2 n) (hn : n ≠ 0) (fm : Fits m) (fn : Fits n) (q : ∀ (p : Addr) (H2 : Hp), Same H H2 → SqT K H2 p [.int (ratN m n), .int (ratD m n)] → Q (.ref p) H2) :
    tCall (spRatio K) [] E0 (tCons t1 (tCons t2 tNil)) σ H Q := h1 _ (h2 _ ⟨m, n, rfl, hn, fm, fn, q⟩)
end
def spTwo (K : PySem.W.Frag) : Sp := fun vs H Q _ => ∃ (p q : Addr) (a b u v : Int), vs = [.ref p, .ref q] ∧ SqT K H p [.int a, .int b] ∧ SqT K H q [.int u, .int v] ∧ Red a b ∧ Red u v ∧ Near a ∧ Near b ∧ Near u ∧ Near v ∧ ∀ H2, Same H H2 → Q (.bl true) H2
theorem ok_two {f f1 f2 f3 f4 f5 f6 : Addr} {fd fd1 fd2 fd3 fd4 fd5 fd6 : FuncData} (hdg : base.NoDigits) (F : Fun K "_law_two_right" "_law_two_right" s__law_two_right f fd)
    (F__law_ratio : Fun K "_law_ratio" "_law_ratio" s__law_ratio f1 fd1) (m__law_ratio : mg "_law_ratio" = some (.ref f1)) (b__law_ratio : Binds K fd1 ["_law_up", "_law_down"] [])
    (G_plus : GFn P w K mg base CX0 4 f2 fd2 ["one", "other"] (spPlus K)) (F_plus : Fun K "plus" "plus" s_plus f2 fd2) (m_plus : mg "plus" = some (.ref f2)) (b_plus : Binds K fd2 ["one", "other"] []) (kb_plus_other_one : KBinds K fd2 ["one", "other"] ["other", "one"] kwTurn kwTurn)
    (G_minus : GFn P w K mg base CX0 4 f3 fd3 ["one", "other"] (spMinus K)) (F_minus : Fun K "minus" "minus" s_minus f3 fd3) (m_minus : mg "minus" = some (.ref f3)) (b_minus : Binds K fd3 ["one", "other"] []) (kb_minus_other_one : KBinds K fd3 ["one", "other"] ["other", "one"] kwTurn kwTurn)
    (G_times : GFn P w K mg base CX0 4 f4 fd4 ["one", "other"] (spTimes K)) (F_times : Fun K "times" "times" s_times f4 fd4) (m_times : mg "times" = some (.ref f4)) (b_times : Binds K fd4 ["one", "other"] []) (kb_times_other_one : KBinds K fd4 ["one", "other"] ["other", "one"] kwTurn kwTurn)
    (G_over : GFn P w K mg base CX0 4 f5 fd5 ["one", "other"] (spOver K)) (F_over : Fun K "over" "over" s_over f5 fd5) (m_over : mg "over" = some (.ref f5)) (b_over : Binds K fd5 ["one", "other"] []) (kb_over_other_one : KBinds K fd5 ["one", "other"] ["other", "one"] kwTurn kwTurn)
    (G_is_less : GFn P w K mg base CX0 4 f6 fd6 ["one", "other"] (spLess K)) (F_is_less : Fun K "is_less" "is_less" s_is_less f6 fd6) (m_is_less : mg "is_less" = some (.ref f6)) (b_is_less : Binds K fd6 ["one", "other"] []) (kb_is_less_other_one : KBinds K fd6 ["one", "other"] ["other", "one"] kwTurn kwTurn) (T : Txt mg) :
    GFn P w K mg base CX0 5 f fd ["_law_x", "_law_y"] (spTwo K) := by
  have G__law_ratio : GFn P w K mg base CX0 1 f1 fd1 ["_law_up", "_law_down"] (spRatio K) := ok_ratio F__law_ratio T
  refine gfun_ok F sc__law_two_right (fun vs H Q E h => ?_) (fun cdv A outer s H vs Q E hgu hr h => ?_)
  · obtain ⟨p, q', a, b, u, v, rfl, _⟩ := h
    rfl
  · obtain ⟨p, q', a, b, u, v, rfl, hp, hq, rx, ry, na, nb, nu, nv, q⟩ := h
    have nd := sc__law_two_right.nd
    have bv0 : b * v ≠ 0 := Int.ne_of_gt (Int.mul_pos rx.1 ry.1)
    have sm1 := lt_401 (near_mul na nv) (near_mul nu nb)
    have far : ∀ {x : Int}, Near x → Small x := fun h => Nat.lt_trans h (Nat.pow_lt_pow_right (by decide) (by decide))
    refine ⟨_, (pss_cons (ps_par (i := 2) (j := 3) rfl nd rfl rfl (by decide) rfl rfl (pa_cons (pe_g G__law_ratio hgu (hr.mono (by decide)) (by rfl) m__law_ratio F__law_ratio.kp b__law_ratio .nil pass0 (pa_cons (pe_op op_sub (pe_op op_mulW (pe_ix (k_ixT (K := K)) (pv 0) pe_int (fun _ _ => rfl)) (pe_ix (k_ixT (K := K)) (pv 1) pe_int (fun _ _ => rfl))) (pe_op op_mulW (pe_ix (k_ixT (K := K)) (pv 1) pe_int (fun _ _ => rfl)) (pe_ix (k_ixT (K := K)) (pv 0) pe_int (fun _ _ => rfl)))) (pa_cons (pe_op op_mulW (pe_ix (k_ixT (K := K)) (pv 0) pe_int (fun _ _ => rfl)) (pe_ix (k_ixT (K := K)) (pv 1) pe_int (fun _ _ => rfl))) pa_nil))) (pa_cons (pe_g G__law_ratio hgu (hr.mono (by decide)) (by rfl) m__law_ratio F__law_ratio.kp b__law_ratio .nil pass0 (pa_cons (pe_op op_mulW (pe_ix (k_ixT (K := K)) (pv 0) pe_int (fun _ _ => rfl)) (pe_ix (k_ixT (K := K)) (pv 1) pe_int (fun _ _ => rfl))) (pa_cons (pe_op op_mulW (pe_ix (k_ixT (K := K)) (pv 0) pe_int (fun _ _ => rfl)) (pe_ix (k_ixT (K := K)) (pv 1) pe_int (fun _ _ => rfl))) pa_nil))) pa_nil)) (by rfl))
      (pss_cons (ps_set (i := 4) nd rfl (Or.inl rfl) (pe_g G__law_ratio hgu (hr.mono (by decide)) (by rfl) m__law_ratio F__law_ratio.kp b__law_ratio .nil pass0 (pa_cons (pe_op op_add (pe_op op_mulW (pe_ix (k_ixT (K := K)) (pv 0) pe_int (fun _ _ => rfl)) (pe_ix (k_ixT (K := K)) (pv 1) pe_int (fun _ _ => rfl))) (pe_op op_mulW (pe_ix (k_ixT (K := K)) (pv 1) pe_int (fun _ _ => rfl)) (pe_ix (k_ixT (K := K)) (pv 0) pe_int (fun _ _ => rfl)))) (pa_cons (pe_op op_mulW (pe_ix (k_ixT (K := K)) (pv 0) pe_int (fun _ _ => rfl)) (pe_ix (k_ixT (K := K)) (pv 1) pe_int (fun _ _ => rfl))) pa_nil))))
      (pss_cons (ps_if (pt_cmpR op_ne (pe_callB (k_repr (K := K) hdg hgu hr) (by rfl) T.repr (by decide +kernel) (pa_cons (pe_lst (pa_cons (pe_g G_plus hgu (hr.mono (by decide)) (by rfl) m_plus F_plus.kp b_plus .nil pass0 (pa_cons (pv 0) (pa_cons (pv 1) pa_nil))) (pa_cons (pe_g G_minus hgu (hr.mono (by decide)) (by rfl) m_minus F_minus.kp b_minus .nil pass0 (pa_cons (pv 0) (pa_cons (pv 1) pa_nil))) (pa_cons (pe_g G_times hgu (hr.mono (by decide)) (by rfl) m_times F_times.kp b_times .nil pass0 (pa_cons (pv 0) (pa_cons (pv 1) pa_nil))) pa_nil)))) pa_nil)) (pe_callB (k_repr (K := K) hdg hgu hr) (by rfl) T.repr (by decide +kernel) (pa_cons (pe_lst (pa_cons (pv 4) (pa_cons (pv 2) (pa_cons (pv 3) pa_nil)))) pa_nil)) (nomark _)) (pss_one (ps_ret pe_bl)) pss_nil)
      (pss_cons (ps_if (pt_cmpR op_ne (pe_callB (k_repr (K := K) hdg hgu hr) (by rfl) T.repr (by decide +kernel) (pa_cons (pe_lst (pa_cons (pe_gK0 G_plus hgu (hr.mono (by decide)) (by rfl) m_plus F_plus.kp kb_plus_other_one pass0 (pk_cons (pv 1) (pk_cons (pv 0) pk_nil))) (pa_cons (pe_gK0 G_minus hgu (hr.mono (by decide)) (by rfl) m_minus F_minus.kp kb_minus_other_one pass0 (pk_cons (pv 1) (pk_cons (pv 0) pk_nil))) (pa_cons (pe_gK0 G_times hgu (hr.mono (by decide)) (by rfl) m_times F_times.kp kb_times_other_one pass0 (pk_cons (pv 1) (pk_cons (pv 0) pk_nil))) pa_nil)))) pa_nil)) (pe_callB (k_repr (K := K) hdg hgu hr) (by rfl) T.repr (by decide +kernel) (pa_cons (pe_lst (pa_cons (pv 4) (pa_cons (pv 2) (pa_cons (pv 3) pa_nil)))) pa_nil)) (nomark _)) (pss_one (ps_ret pe_bl)) pss_nil)
      (pss_cons (ps_if (pt_cmpR op_ne (pe_callB (k_repr (K := K) hdg hgu hr) (by rfl) T.repr (by decide +kernel) (pa_cons (pe_lst (pa_cons (pe_g G_is_less hgu (hr.mono (by decide)) (by rfl) m_is_less F_is_less.kp b_is_less .nil pass0 (pa_cons (pv 0) (pa_cons (pv 1) pa_nil))) (pa_cons (pe_gK0 G_is_less hgu (hr.mono (by decide)) (by rfl) m_is_less F_is_less.kp kb_is_less_other_one pass0 (pk_cons (pv 0) (pk_cons (pv 1) pk_nil))) pa_nil))) pa_nil)) (pe_callB (k_repr (K := K) hdg hgu hr) (by rfl) T.repr (by decide +kernel) (pa_cons (pe_lst (pa_cons (pe_cmpR op_lt (pe_ix (k_ixT (K := K)) (pv 2) pe_int (fun _ _ => rfl)) pe_int (nomark _)) (pa_cons (pe_cmpR op_gt (pe_ix (k_ixT (K := K)) (pv 2) pe_int (fun _ _ => rfl)) pe_int (nomark _)) pa_nil))) pa_nil)) (nomark _)) (pss_one (ps_ret pe_bl)) pss_nil)
      (pss_cons (ps_if (PW.pt (pw_or (pt_cmpR (k_neD (K := K) hr.units) (pe_g G_minus hgu (hr.mono (by decide)) (by rfl) m_minus F_minus.kp b_minus .nil pass0 (pa_cons (pe_g G_plus hgu (hr.mono (by decide)) (by rfl) m_plus F_plus.kp b_plus .nil pass0 (pa_cons (pv 0) (pa_cons (pv 1) pa_nil))) (pa_cons (pv 1) pa_nil))) (pv 0) (nomark _)) (pw_or1 (pt_cmpR (k_neD (K := K) hr.units) (pe_g G_plus hgu (hr.mono (by decide)) (by rfl) m_plus F_plus.kp b_plus .nil pass0 (pa_cons (pe_g G_minus hgu (hr.mono (by decide)) (by rfl) m_minus F_minus.kp b_minus .nil pass0 (pa_cons (pv 0) (pa_cons (pv 1) pa_nil))) (pa_cons (pv 1) pa_nil))) (pv 0) (nomark _))))) (pss_one (ps_ret pe_bl)) pss_nil)
      (pss_cons (ps_if (pt_cmpR op_eq (pe_ix (k_ixT (K := K)) (pv 1) pe_int (fun _ _ => rfl)) pe_int (nomark _)) (pss_one (ps_ret pe_bl)) pss_nil)
      (pss_cons (ps_set (i := 5) nd rfl (Or.inl rfl) (pe_g G__law_ratio hgu (hr.mono (by decide)) (by rfl) m__law_ratio F__law_ratio.kp b__law_ratio .nil pass0 (pa_cons (pe_op op_mulW (pe_ix (k_ixT (K := K)) (pv 0) pe_int (fun _ _ => rfl)) (pe_ix (k_ixT (K := K)) (pv 1) pe_int (fun _ _ => rfl))) (pa_cons (pe_op op_mulW (pe_ix (k_ixT (K := K)) (pv 0) pe_int (fun _ _ => rfl)) (pe_ix (k_ixT (K := K)) (pv 1) pe_int (fun _ _ => rfl))) pa_nil))))
      (pss_one (ps_ret (pe_and (pe_cmpR op_eq (pe_callB (k_repr (K := K) hdg hgu hr) (by rfl) T.repr (by decide +kernel) (pa_cons (pe_lst (pa_cons (pe_g G_over hgu (hr.mono (by decide)) (by rfl) m_over F_over.kp b_over .nil pass0 (pa_cons (pv 0) (pa_cons (pv 1) pa_nil))) (pa_cons (pe_gK0 G_over hgu (hr.mono (by decide)) (by rfl) m_over F_over.kp kb_over_other_one pass0 (pk_cons (pv 1) (pk_cons (pv 0) pk_nil))) pa_nil))) pa_nil)) (pe_callB (k_repr (K := K) hdg hgu hr) (by rfl) T.repr (by decide +kernel) (pa_cons (pe_lst (pa_cons (pv 5) (pa_cons (pv 5) pa_nil))) pa_nil)) (nomark _)) (pe_one (pe_cmpR (k_eqD (K := K) hr.units) (pe_g G_over hgu (hr.mono (by decide)) (by rfl) m_over F_over.kp b_over .nil pass0 (pa_cons (pe_g G_times hgu (hr.mono (by decide)) (by rfl) m_times F_times.kp b_times .nil pass0 (pa_cons (pv 0) (pa_cons (pv 1) pa_nil))) (pa_cons (pv 1) pa_nil))) (pv 0) (nomark _)))))))))))))), ?_⟩
    have fm1 := fits_401 sm1.1
    have fm2 := fits_401 sm1.2
    have fbv := fits_mul nb nv
    have fau := fits_mul na nu
    have ok1 : OkD (fr (ratN (a * v + u * b) (b * v)) (ratD (a * v + u * b) (b * v))) := ok_fr (Nat.lt_of_le_of_lt (ratN_abs bv0) fm1) (Nat.lt_of_le_of_lt (ratD_abs bv0) fbv)
    have ok2 : OkD (fr (ratN (a * v - u * b) (b * v)) (ratD (a * v - u * b) (b * v))) := ok_fr (Nat.lt_of_le_of_lt (ratN_abs bv0) fm2) (Nat.lt_of_le_of_lt (ratD_abs bv0) fbv)
    have ok3 : OkD (fr (ratN (a * u) (b * v)) (ratD (a * u) (b * v))) := ok_fr (Nat.lt_of_le_of_lt (ratN_abs bv0) fau) (Nat.lt_of_le_of_lt (ratD_abs bv0) fbv)
    have okL := ok_fr3 ok1 ok2 ok3
    have P0 : FracAt K H p a b := ⟨hp, rx, far na, far nb⟩
    have Q0 : FracAt K H q' u v := ⟨hq, ry, far nu, far nv⟩
    -- less and more
    refine ratio_tell (K := K) (((Ev.ix0 rfl hp).mul (Ev.ix1 rfl hq) na nv).sub ((Ev.ix0 rfl hq).mul (Ev.ix1 rfl hp) nu nb)) ((Ev.ix1 rfl hp).mul (Ev.ix1 rfl hq) nb nv) bv0 fm2 fbv fun r1 H1 s1 h1 => ?_
    have hp1 := sameT s1 hp
    have hq1 := sameT s1 hq
    refine ratio_tell (K := K) ((Ev.ix0 rfl hp1).mul (Ev.ix0 rfl hq1) na nu) ((Ev.ix1 rfl hp1).mul (Ev.ix1 rfl hq1) nb nv) bv0 fau fbv fun r2 H2 s2 h2 => ⟨_, _, rfl, ?_⟩
    have hp2 := sameT s2 hp1
    have hq2 := sameT s2 hq1
    -- the sum
    refine ratio_tell (K := K) (((Ev.ix0 rfl hp2).mul (Ev.ix1 rfl hq2) na nv).add ((Ev.ix0 rfl hq2).mul (Ev.ix1 rfl hp2) nu nb)) ((Ev.ix1 rfl hp2).mul (Ev.ix1 rfl hq2) nb nv) bv0 fm1 fbv fun r3 H3 s3 h3 => ?_
    have h13 := sameT (s2.trans s3) h1
    have h23 := sameT s3 h2
    have s03 := (s1.trans s2).trans s3
    -- by place
    refine ⟨_, rfl, _, rfl, p, q', a, b, u, v, rfl, P0.same s03, Q0.same s03, bv0, fun w1 Ha sa ha => ⟨_, rfl, _, rfl, p, q', a, b, u, v, rfl, P0.same (s03.trans sa), Q0.same (s03.trans sa), bv0, fun w2 Hb sb hb => ⟨_, rfl, _, rfl, p, q', a, b, u, v, rfl, P0.same ((s03.trans sa).trans sb), Q0.same ((s03.trans sa).trans sb), bv0, fun w3 Hc sc hc => ⟨by show 3 ≤ sizeLine; decide, fun g ng => ?_⟩⟩⟩⟩
    have sg := same_new (o := .lst [.ref w1, .ref w2, .ref w3]) ng
    refine ⟨_, rfl, .inl ⟨.list [fr _ _, fr _ _, fr _ _], .lst (SqL.of upd_same) (.cons (dp_fr (sameT ((sb.trans sc).trans sg) ha)) (.cons (dp_fr (sameT (sc.trans sg) hb)) (.cons (dp_fr (sameT sg hc)) .nil))), okL.tell, Nat.le_trans okL.dep (by decide), okL.shown, ?_⟩⟩
    have s34 := ((sa.trans sb).trans sc).trans sg
    generalize upd Hc g (.lst [.ref w1, .ref w2, .ref w3]) = H4 at s34 ⊢
    have s04 := s03.trans s34
    have l4 := sameT s34 h13
    have m4 := sameT s34 h23
    have w4 := sameT s34 h3
    refine ⟨_, rfl, _, rfl, _, rfl, by show 3 ≤ sizeLine; decide, fun g2 ng2 => ?_⟩
    have sg2 := same_new (o := .lst [.ref r3, .ref r1, .ref r2]) ng2
    refine ⟨_, rfl, .inl ⟨.list [fr _ _, fr _ _, fr _ _], .lst (SqL.of upd_same) (.cons (dp_fr (sameT sg2 w4)) (.cons (dp_fr (sameT sg2 l4)) (.cons (dp_fr (sameT sg2 m4)) .nil))), okL.tell, Nat.le_trans okL.dep (by decide), okL.shown, ?_⟩⟩
    refine rNe_same ⟨_, rfl, iteF ?_⟩
    have s05 := s04.trans sg2
    have l5 := sameT sg2 l4
    have m5 := sameT sg2 m4
    have w5 := sameT sg2 w4
    generalize upd H4 g2 (.lst [.ref r3, .ref r1, .ref r2]) = H5 at s05 l5 m5 w5 ⊢
    -- by name
    refine ⟨_, rfl, _, rfl, p, q', a, b, u, v, rfl, P0.same s05, Q0.same s05, bv0, fun w1 Ha sa ha => ⟨_, rfl, _, rfl, p, q', a, b, u, v, rfl, P0.same (s05.trans sa), Q0.same (s05.trans sa), bv0, fun w2 Hb sb hb => ⟨_, rfl, _, rfl, p, q', a, b, u, v, rfl, P0.same ((s05.trans sa).trans sb), Q0.same ((s05.trans sa).trans sb), bv0, fun w3 Hc sc hc => ⟨by show 3 ≤ sizeLine; decide, fun g ng => ?_⟩⟩⟩⟩
    have sg := same_new (o := .lst [.ref w1, .ref w2, .ref w3]) ng
    refine ⟨_, rfl, .inl ⟨.list [fr _ _, fr _ _, fr _ _], .lst (SqL.of upd_same) (.cons (dp_fr (sameT ((sb.trans sc).trans sg) ha)) (.cons (dp_fr (sameT (sc.trans sg) hb)) (.cons (dp_fr (sameT sg hc)) .nil))), okL.tell, Nat.le_trans okL.dep (by decide), okL.shown, ?_⟩⟩
    have s56 := ((sa.trans sb).trans sc).trans sg
    generalize upd Hc g (.lst [.ref w1, .ref w2, .ref w3]) = H6 at s56 ⊢
    have s06 := s05.trans s56
    have l6 := sameT s56 l5
    have m6 := sameT s56 m5
    have w6 := sameT s56 w5
    refine ⟨_, rfl, _, rfl, _, rfl, by show 3 ≤ sizeLine; decide, fun g3 ng3 => ?_⟩
    have sg3 := same_new (o := .lst [.ref r3, .ref r1, .ref r2]) ng3
    refine ⟨_, rfl, .inl ⟨.list [fr _ _, fr _ _, fr _ _], .lst (SqL.of upd_same) (.cons (dp_fr (sameT sg3 w6)) (.cons (dp_fr (sameT sg3 l6)) (.cons (dp_fr (sameT sg3 m6)) .nil))), okL.tell, Nat.le_trans okL.dep (by decide), okL.shown, ?_⟩⟩
    refine rNe_same ⟨_, rfl, iteF ?_⟩
    have s07 := s06.trans sg3
    have l7 := sameT sg3 l6
    generalize upd H6 g3 (.lst [.ref r3, .ref r1, .ref r2]) = H7 at s07 l7 ⊢
    -- the order
    refine ⟨_, rfl, _, rfl, p, q', a, b, u, v, rfl, P0.same s07, Q0.same s07, fun Ha sa => ⟨_, rfl, _, rfl, q', p, u, v, a, b, rfl, Q0.same (s07.trans sa), P0.same (s07.trans sa), fun Hb sb => ⟨by show 2 ≤ sizeLine; decide, fun g4 ng4 => ?_⟩⟩⟩
    have okB := ok_bl2 (decide (a * v < u * b)) (decide (u * b < a * v))
    refine ⟨_, rfl, .inl ⟨.list [.bool (decide (a * v < u * b)), .bool (decide (u * b < a * v))], .lst (SqL.of upd_same) (.cons (.bl _) (.cons (.bl _) .nil)), okB.tell, Nat.le_trans okB.dep (by decide), okB.shown, ?_⟩⟩
    have s78 := (sa.trans sb).trans (same_new (o := .lst [.bl (decide (a * v < u * b)), .bl (decide (u * b < a * v))]) ng4)
    generalize upd Hb g4 (.lst [.bl (decide (a * v < u * b)), .bl (decide (u * b < a * v))]) = H8 at s78 ⊢
    have s08 := s07.trans s78
    have l8 := sameT s78 l7
    have e1 : decide (ratN (a * v - u * b) (b * v) < 0) = decide (a * v < u * b) := by
      have z := ratN_neg (a := a * v - u * b) (Int.mul_pos rx.1 ry.1)
      by_cases h : a * v < u * b
      · rw [decide_eq_true h, decide_eq_true (z.mpr (by omega))]
      · rw [decide_eq_false h, decide_eq_false (fun y => h (by have := z.mp y; omega))]
    have e2 : decide (0 < ratN (a * v - u * b) (b * v)) = decide (u * b < a * v) := by
      have z := ratN_pos (a := a * v - u * b) (Int.mul_pos rx.1 ry.1)
      by_cases h : u * b < a * v
      · rw [decide_eq_true h, decide_eq_true (z.mpr (by omega))]
      · rw [decide_eq_false h, decide_eq_false (fun y => h (by have := z.mp y; omega))]
    refine ⟨_, rfl, r1, _, 0, _, rfl, rfl, l8, atI_nat (j := 0) rfl, _, _, rfl, rfl, _, rfl, r1, _, 0, _, rfl, rfl, l8, atI_nat (j := 0) rfl, _, _, rfl, rfl, by show 2 ≤ sizeLine; decide, fun g5 ng5 => ?_⟩
    dsimp only
    rw [e1, e2]
    refine ⟨_, rfl, .inl ⟨.list [.bool (decide (a * v < u * b)), .bool (decide (u * b < a * v))], .lst (SqL.of upd_same) (.cons (.bl _) (.cons (.bl _) .nil)), okB.tell, Nat.le_trans okB.dep (by decide), okB.shown, ?_⟩⟩
    refine rNe_same ⟨_, rfl, iteF ?_⟩
    have s09 := s08.trans (same_new (o := .lst [.bl (decide (a * v < u * b)), .bl (decide (u * b < a * v))]) ng5)
    generalize upd H8 g5 (.lst [.bl (decide (a * v < u * b)), .bl (decide (u * b < a * v))]) = H9 at s09 ⊢
    have sN : ∀ {x y : Int}, y ≠ 0 → x.natAbs < 2 ^ 401 → Small (ratN x y) := fun h0 h => small_401 (Nat.lt_of_le_of_lt (ratN_abs h0) h)
    have sD : ∀ {x y : Int}, y ≠ 0 → y.natAbs < 2 ^ 400 → Small (ratD x y) := fun h0 h => small_401 (Nat.lt_of_le_of_lt (ratD_abs h0) (Nat.lt_trans h (Nat.pow_lt_pow_right (by decide) (by decide))))
    have up : ∀ {x : Int}, x.natAbs < 2 ^ 400 → x.natAbs < 2 ^ 401 := fun h => Nat.lt_trans h (Nat.pow_lt_pow_right (by decide) (by decide))
    have sT : ∀ {r : Addr} {H2 : Hp} {x y : Int}, y ≠ 0 → x.natAbs < 2 ^ 401 → y.natAbs < 2 ^ 400 → SqT K H2 r [.int (ratN x y), .int (ratD x y)] → FracAt K H2 r (ratN x y) (ratD x y) := fun h0 h1 h2 h => ⟨h, rat_red h0, sN h0 h1, sD h0 h2⟩
    have bvL := near_mul nb nv
    -- back and forth
    refine ⟨_, rfl, _, rfl, p, q', a, b, u, v, rfl, P0.same s09, Q0.same s09, bv0, fun w1 Ha sa ha => ⟨_, rfl, w1, q', _, _, u, v, rfl, sT bv0 sm1.1 bvL ha, Q0.same (s09.trans sa), Int.ne_of_gt (Int.mul_pos (ratD_pos bv0) ry.1), fun w2 Hb sb hb => ?_⟩⟩
    have hb' : SqT K Hb w2 [.int a, .int b] := by
      have z := hb
      dsimp only at z
      rw [(back_minus rx ry).1, (back_minus rx ry).2] at z
      exact z
    have s10 := (s09.trans sa).trans sb
    refine ⟨_, rfl, fr a b, fr a b, dp_fr hb', dp_fr (sameT s10 hp), shaped_fr _ _, shaped_fr _ _, _, rfl, ?_⟩
    rw [eqv_fr]
    refine iteF ?_
    refine ⟨_, rfl, _, rfl, p, q', a, b, u, v, rfl, P0.same s10, Q0.same s10, bv0, fun w3 Hc sc hc => ⟨_, rfl, w3, q', _, _, u, v, rfl, sT bv0 sm1.2 bvL hc, Q0.same (s10.trans sc), Int.ne_of_gt (Int.mul_pos (ratD_pos bv0) ry.1), fun w4 Hd sd hd => ?_⟩⟩
    have hd' : SqT K Hd w4 [.int a, .int b] := by
      have z := hd
      dsimp only at z
      rw [(back_plus rx ry).1, (back_plus rx ry).2] at z
      exact z
    have s11 := (s10.trans sc).trans sd
    refine ⟨_, rfl, fr a b, fr a b, dp_fr hd', dp_fr (sameT s11 hp), shaped_fr _ _, shaped_fr _ _, _, rfl, ?_⟩
    rw [eqv_fr]
    refine iteF ?_
    -- parts
    have hq11 := sameT s11 hq
    have hp11 := sameT s11 hp
    refine ⟨_, rfl, q', _, 0, _, rfl, rfl, hq11, atI_nat (j := 0) rfl, rfl, _, rfl, ite2 (fun _ => q _ s11) (fun h0 => ?_)⟩
    have u0 : u ≠ 0 := fun z => h0 (by rw [z]; rfl)
    have bu0 : b * u ≠ 0 := Int.mul_ne_zero (Int.ne_of_gt rx.1) u0
    have fav := fits_mul na nv
    have fbu := fits_mul nb nu
    have okP : OkD (fr (ratN (a * v) (b * u)) (ratD (a * v) (b * u))) := ok_fr (Nat.lt_of_le_of_lt (ratN_abs bu0) fav) (Nat.lt_of_le_of_lt (ratD_abs bu0) fbu)
    have okP2 := ok_fr2 okP okP
    refine ratio_tell (K := K) ((Ev.ix0 rfl hp11).mul (Ev.ix1 rfl hq11) na nv) ((Ev.ix1 rfl hp11).mul (Ev.ix0 rfl hq11) nb nu) bu0 fav fbu fun r5 H12 s12 h12 => ?_
    have s012 := s11.trans s12
    refine ⟨_, rfl, _, rfl, p, q', a, b, u, v, rfl, P0.same s012, Q0.same s012, bu0, fun w5 He se he => ⟨_, rfl, _, rfl, p, q', a, b, u, v, rfl, P0.same (s012.trans se), Q0.same (s012.trans se), bu0, fun w6 Hf sf hf => ⟨by show 2 ≤ sizeLine; decide, fun g6 ng6 => ?_⟩⟩⟩
    have sg6 := same_new (o := .lst [.ref w5, .ref w6]) ng6
    refine ⟨_, rfl, .inl ⟨.list [fr _ _, fr _ _], .lst (SqL.of upd_same) (.cons (dp_fr (sameT (sf.trans sg6) he)) (.cons (dp_fr (sameT sg6 hf)) .nil)), okP2.tell, Nat.le_trans okP2.dep (by decide), okP2.shown, ?_⟩⟩
    have s13 := (se.trans sf).trans sg6
    have h13 := sameT s13 h12
    have s013 := s012.trans s13
    generalize upd Hf g6 (.lst [.ref w5, .ref w6]) = H13 at s013 h13 ⊢
    refine ⟨_, rfl, _, rfl, by show 2 ≤ sizeLine; decide, fun g7 ng7 => ?_⟩
    have sg7 := same_new (o := .lst [.ref r5, .ref r5]) ng7
    refine ⟨_, rfl, .inl ⟨.list [fr _ _, fr _ _], .lst (SqL.of upd_same) (.cons (dp_fr (sameT sg7 h13)) (.cons (dp_fr (sameT sg7 h13)) .nil)), okP2.tell, Nat.le_trans okP2.dep (by decide), okP2.shown, ?_⟩⟩
    refine rEq_same ⟨_, rfl, iteT ?_⟩
    have s14 := s013.trans sg7
    generalize upd H13 g7 (.lst [.ref r5, .ref r5]) = H14 at s14 ⊢
    refine ⟨_, rfl, _, rfl, p, q', a, b, u, v, rfl, P0.same s14, Q0.same s14, bv0, fun w7 Hg sg ha7 => ⟨_, rfl, w7, q', _, _, u, v, rfl, sT bv0 (up (near_mul na nu)) bvL ha7, Q0.same (s14.trans sg), Int.mul_ne_zero (Int.ne_of_gt (ratD_pos bv0)) u0, fun w8 Hh sh hb8 => ?_⟩⟩
    have hb8' : SqT K Hh w8 [.int a, .int b] := by
      have z := hb8
      dsimp only at z
      rw [(back_over rx ry u0).1, (back_over rx ry u0).2] at z
      exact z
    have s15 := (s14.trans sg).trans sh
    refine ⟨_, rfl, fr a b, fr a b, dp_fr hb8', dp_fr (sameT s15 hp), shaped_fr _ _, shaped_fr _ _, ?_⟩
    rw [eqv_fr]
    exact q Hh s15
end
end SG

namespace SG
open PySem PySem.Spec PyProof.Rows L2 TL
open SX (S S_tl S_len S_cat)
section
variable {P : Program} {w : World} {K : PySem.W.Frag} {mg : Str → Option Value} {base : Heap}
theorem char_lt (c : Char) : c.toNat < 0x110000 := by
  have h := c.valid
  rcases h with h | h
  · exact Nat.lt_trans h (by decide)
  · exact h.2
theorem strOk_of (s : String) : PyData.strOk (Str.ofString s) = true := by
  unfold PyData.strOk
  rw [← Array.all_toList, signs_ofString, List.all_eq_true]
  intro x hx
  obtain ⟨c, _, rfl⟩ := List.mem_map.mp hx
  exact decide_eq_true (char_lt c)
theorem strOk_app {a b : Str} (ha : PyData.strOk a = true) (hb : PyData.strOk b = true) : PyData.strOk (a ++ b) = true := by
  unfold PyData.strOk at ha hb ⊢
  rw [← Array.all_toList] at ha hb ⊢
  have e : (a ++ b).cps.toList = a.cps.toList ++ b.cps.toList := tl_append a b
  rw [e, List.all_append, ha, hb]
  rfl
/-- the text of a fraction -/
def pageS (a b : Int) : Str := if b = 1 then Str.ofString (toString a) else Str.ofString (toString a) ++ "/" ++ Str.ofString (toString b)
theorem pageOk (a b : Int) : PyData.strOk (pageS a b) = true := by
  unfold pageS
  split
  · exact strOk_of _
  · exact strOk_app (strOk_app (strOk_of _) (by decide +kernel)) (strOk_of _)
def spPage (K : PySem.W.Frag) : Sp := fun vs H Q _ => ∃ (p : Addr) (a b : Int), vs = [.ref p] ∧ SqT K H p [.int a, .int b] ∧ Near a ∧ Near b ∧ ∀ H2, Same H H2 → Q (.str (pageS a b)) H2
theorem near_log {a : Int} (h : Near a) : a.natAbs.log2 < 1920 := Nat.lt_of_lt_of_le (PySem.Flt.log2_lt_of (by decide) h) (by decide)
theorem near_len {a : Int} (h : Near a) : (Str.ofString (toString a)).length ≤ 62 := by
  have e := int_text_length_le10 (a := a) (k := 61) (by decide) (Nat.lt_of_lt_of_le h (by decide +kernel))
  rw [PySem.ofString_length]
  exact e
theorem ok_page {f : Addr} {fd : FuncData} (F : Fun K "_law_page" "_law_page" s__law_page f fd) (T : Txt mg) : GFn P w K mg base CX0 1 f fd ["_law_it"] (spPage K) := by
  refine gfun_ok F sc__law_page (fun vs H Q E h => ?_) (fun cdv A outer s H vs Q E hgu hr h => ?_)
  · obtain ⟨p, a, b, rfl, _⟩ := h
    rfl
  · obtain ⟨p, a, b, rfl, hp, na, nb, q⟩ := h
    have nd := sc__law_page.nd
    refine ⟨_, (pss_one (ps_ret (pe_ifExp (pt_cmpR op_eq (pe_ix (k_ixT (K := K)) (pv 0) pe_int (fun _ _ => rfl)) pe_int (nomark _)) (pe_callTy call_str_int (by rfl) T.str (by decide +kernel) (pa_cons (pe_ix (k_ixT (K := K)) (pv 0) pe_int (fun _ _ => rfl)) pa_nil)) (pe_op op_add_str (pe_op op_add_str (pe_callTy call_str_int (by rfl) T.str (by decide +kernel) (pa_cons (pe_ix (k_ixT (K := K)) (pv 0) pe_int (fun _ _ => rfl)) pa_nil)) pe_str) (pe_callTy call_str_int (by rfl) T.str (by decide +kernel) (pa_cons (pe_ix (k_ixT (K := K)) (pv 0) pe_int (fun _ _ => rfl)) pa_nil)))))), ?_⟩
    have z := q H (Same.refl H)
    unfold pageS at z
    refine ⟨_, rfl, p, _, 1, _, rfl, rfl, hp, atI_nat (j := 1) rfl, rfl, _, rfl, ite2 (fun h => ?_) (fun h => ?_)⟩
    · rw [dec_int, beq_iff_eq] at h
      rw [if_pos h] at z
      exact ⟨_, rfl, p, _, 0, _, rfl, rfl, hp, atI_nat (j := 0) rfl, a, rfl, near_log na, z⟩
    · rw [dec_int, beq_iff_eq] at h
      rw [if_neg h] at z
      have l1 := near_len na
      have l2 := near_len nb
      refine ⟨_, rfl, p, _, 0, _, rfl, rfl, hp, atI_nat (j := 0) rfl, a, rfl, near_log na, _, _, rfl, rfl, ?_, _, rfl, p, _, 1, _, rfl, rfl, hp, atI_nat (j := 1) rfl, b, rfl, near_log nb, _, _, rfl, rfl, ?_, z⟩
      · refine Nat.le_of_lt (small1000 ?_)
        have : ("/" : Str).length = 1 := by decide +kernel
        omega
      · refine Nat.le_of_lt (small1000 ?_)
        have : ("/" : Str).length = 1 := by decide +kernel
        have e : (Str.ofString (toString a) ++ "/").length = (Str.ofString (toString a)).length + ("/" : Str).length := by
          have e0 := congrArg List.length (tl_append (Str.ofString (toString a)) "/")
          rw [List.length_append] at e0
          simpa [Str.length] using e0
        omega
end
end SG

namespace SG
open PySem PySem.Spec PyProof.Rows L2 TL
open SX (S S_tl S_len S_cat)
section
variable {P : Program} {w : World} {K : PySem.W.Frag} {mg : Str → Option Value} {base : Heap}

/-! ### the things that may be fractions -/
def ItemX (K : PySem.W.Frag) (H : Hp) (v : V) : Prop := ∃ D, Item K H v D
theorem ItemX.same {H H2 : Hp} {v : V} (s : Same H H2) (h : ItemX K H v) : ItemX K H2 v := by
  obtain ⟨D, h⟩ := h
  exact ⟨D, h.same s⟩
/-- a thing written down: its data -/
def WrE (K : PySem.W.Frag) (σ : L2.St) (H0 : Hp) (t : TE) (D : PyData) : Prop := ∀ (H : Hp) (Q : VK), Same H0 H → (∀ x H2, Same H H2 → Dp K H2 x D → Q x H2) → t σ H Q
def WrA (K : PySem.W.Frag) (σ : L2.St) (H0 : Hp) (t : TA) (ds : List PyData) : Prop := ∀ (H : Hp) (Q : List V → Hp → Prop), Same H0 H → (∀ xs H2, Same H H2 → DpAll K H2 xs ds → Q xs H2) → t σ H Q
def WrI (K : PySem.W.Frag) (σ : L2.St) (H0 : Hp) (t : TA) (n : Nat) : Prop := ∀ (H : Hp) (Q : List V → Hp → Prop), Same H0 H → (∀ xs H2, Same H H2 → (∀ x ∈ xs, ItemX K H2 x) → xs.length = n → Q xs H2) → t σ H Q
section
variable {σ : L2.St} {H0 : Hp}
theorem WrE.non : WrE K σ H0 (tC .non) .none := fun H Q _ q => q _ H (Same.refl H) .non
theorem WrE.bl {b : Bool} : WrE K σ H0 (tC (.bl b)) (.bool b) := fun H Q _ q => q _ H (Same.refl H) (.bl b)
theorem WrE.int {i : Int} : WrE K σ H0 (tC (.int i)) (.int i) := fun H Q _ q => q _ H (Same.refl H) (.int i)
theorem WrE.str {z : Str} : WrE K σ H0 (tC (.str z)) (.str z) := fun H Q _ q => q _ H (Same.refl H) (.str z)
theorem WrA.nil : WrA K σ H0 tNil [] := fun H Q _ q => q [] H (Same.refl H) .nil
theorem WrA.cons {t : TE} {ts : TA} {D : PyData} {ds : List PyData} (a : WrE K σ H0 t D) (b : WrA K σ H0 ts ds) : WrA K σ H0 (tCons t ts) (D :: ds) := fun H Q s q =>
  a H _ s fun x H1 s1 hx => b H1 _ (s.trans s1) fun xs H2 s2 hxs => q _ _ (s1.trans s2) (.cons (dp_same s2 hx) hxs)
theorem WrE.tup {t : TA} {ds : List PyData} (a : WrA K σ H0 t ds) (h : ds.length ≤ 1000) : WrE K σ H0 (tTup t) (.tuple ds) := fun H Q s q =>
  a H _ s fun xs H1 s1 hx => ⟨Nat.le_of_lt (small1000 (by rw [dpA_len hx]; exact h)), fun p np => q _ _ (s1.trans (same_new np)) (.tup (.inl (.inl upd_same)) (dpA_same (same_new np) hx))⟩
theorem WrE.lst {t : TA} {ds : List PyData} (a : WrA K σ H0 t ds) (h : ds.length ≤ 1000) : WrE K σ H0 (tLst t) (.list ds) := fun H Q s q =>
  a H _ s fun xs H1 s1 hx => ⟨Nat.le_of_lt (small1000 (by rw [dpA_len hx]; exact h)), fun p np => q _ _ (s1.trans (same_new np)) (.lst (SqL.of upd_same) (dpA_same (same_new np) hx))⟩
theorem WrI.nil : WrI K σ H0 tNil 0 := fun H Q _ q => q [] H (Same.refl H) (fun x hx => nomatch hx) rfl
/-- an item by its data -/
def Fine (D : PyData) : Prop := OkD D ∧ (∀ ds, D = .tuple ds → ds.length ≤ 100) ∧ (∀ a b, D = .tuple [.int a, .int b] → Fits a ∧ Fits b)
theorem WrI.cons {t : TE} {ts : TA} {D : PyData} {n : Nat} (a : WrE K σ H0 t D) (f : Fine D) (b : WrI K σ H0 ts n) : WrI K σ H0 (tCons t ts) (n + 1) := fun H Q s q =>
  a H _ s fun x H1 s1 hx => b H1 _ (s.trans s1) fun xs H2 s2 hxs e => by
    refine q _ _ (s1.trans s2) (fun y hy => ?_) (congrArg (· + 1) e)
    rcases List.mem_cons.mp hy with rfl | hy
    · exact ⟨D, .inl (dp_same s2 hx), .inr f.1, f.2.1, f.2.2⟩
    · exact hxs y hy
theorem WrI.dict {ts : TA} {n : Nat} (b : WrI K σ H0 ts n) : WrI K σ H0 (tCons tDNewK ts) (n + 1) := fun H Q s q p np =>
  b _ _ (s.trans (same_new np)) fun xs H2 s2 hxs e => by
    refine q _ _ ((same_new np).trans s2) (fun y hy => ?_) (congrArg (· + 1) e)
    rcases List.mem_cons.mp hy with rfl | hy
    · have hp := s2 _ _ (show (upd H p (.dK [])) p = some (.dK []) from upd_same)
      exact ⟨.dict [], .inr ⟨rfl, p, rfl, hp⟩, .inl rfl, nofun, nofun⟩
    · exact hxs y hy
end
/-- constants: all by reckoning -/
theorem fine_by {D : PyData} (h : (D.canLay0 && decide (D.depth ≤ 50) && tellable D && D.leavesShort 4302 && decide (D.bulk ≤ 3000)) = true) (h2 : ∀ ds, D = .tuple ds → ds.length ≤ 100) (h3 : ∀ a b, D = .tuple [.int a, .int b] → a.natAbs ≤ 2 ∧ b.natAbs ≤ 2) : Fine D := by
  simp only [Bool.and_eq_true, decide_eq_true_eq] at h
  exact ⟨⟨h.1.1.1.1, h.1.1.1.2, h.1.1.2, h.1.2, h.2⟩, h2, fun a b e => ⟨Nat.lt_of_le_of_lt (h3 a b e).1 (by decide +kernel), Nat.lt_of_le_of_lt (h3 a b e).2 (by decide +kernel)⟩⟩
theorem last_lit {σ : L2.St} {H0 : Hp} : WrI K σ H0 (tCons (tC V.non) (tCons (tC (V.int 0)) (tCons (tC (V.int 1)) (tCons (tC (V.bl true)) (tCons (tC (V.str "1/2")) (tCons (tTup tNil) (tCons (tTup (tCons (tC (V.int 0)) (tCons (tC (V.int 1)) tNil)))
    (tCons (tTup (tCons (tC (V.int 0)) (tCons (tC (V.int 2)) tNil))) (tCons (tTup (tCons (tC (V.int 1)) (tCons (tC (V.int 1)) tNil))) (tCons (tTup (tCons (tC (V.bl true)) (tCons (tC (V.int 1)) tNil))) (tCons (tTup (tCons (tC (V.bl false)) (tCons (tC (V.bl true)) tNil)))
    (tCons (tTup (tCons (tC (V.str "1")) (tCons (tC (V.int 2)) tNil))) (tCons tDNewK (tCons (tLst tNil) tNil)))))))))))))) 14 := by
  refine .cons .non (fine_by (by decide +kernel) nofun nofun) ?_
  refine .cons .int (fine_by (by decide +kernel) nofun nofun) ?_
  refine .cons .int (fine_by (by decide +kernel) nofun nofun) ?_
  refine .cons .bl (fine_by (by decide +kernel) nofun nofun) ?_
  refine .cons .str (fine_by (by decide +kernel) nofun nofun) ?_
  refine .cons (.tup .nil (by decide)) (fine_by (by decide +kernel) (fun ds e => by cases e; decide) nofun) ?_
  refine .cons (.tup (.cons .int (.cons .int .nil)) (by show 2 ≤ 1000; decide)) (fine_by (by decide +kernel) (fun ds e => by cases e; decide) (fun a b e => by cases e; decide)) ?_
  refine .cons (.tup (.cons .int (.cons .int .nil)) (by show 2 ≤ 1000; decide)) (fine_by (by decide +kernel) (fun ds e => by cases e; decide) (fun a b e => by cases e; decide)) ?_
  refine .cons (.tup (.cons .int (.cons .int .nil)) (by show 2 ≤ 1000; decide)) (fine_by (by decide +kernel) (fun ds e => by cases e; decide) (fun a b e => by cases e; decide)) ?_
  refine .cons (.tup (.cons .bl (.cons .int .nil)) (by show 2 ≤ 1000; decide)) (fine_by (by decide +kernel) (fun ds e => by cases e; decide) nofun) ?_
  refine .cons (.tup (.cons .bl (.cons .bl .nil)) (by show 2 ≤ 1000; decide)) (fine_by (by decide +kernel) (fun ds e => by cases e; decide) nofun) ?_
  refine .cons (.tup (.cons .str (.cons .int .nil)) (by show 2 ≤ 1000; decide)) (fine_by (by decide +kernel) (fun ds e => by cases e; decide) nofun) ?_
  refine .dict ?_
  refine .cons (.lst .nil (by decide)) (fine_by (by decide +kernel) nofun nofun) .nil

theorem cut_to2 (xs : List V) (n : Nat) : cutV xs none (some (n : Int)) = xs.take n := by
  unfold cutV
  rw [HT.sIx_none, HT.sIx_nat, Nat.sub_zero, List.drop_zero]
  rcases Nat.le_total n xs.length with h | h
  · rw [Nat.min_eq_left h]
  · rw [Nat.min_eq_right h, List.take_of_length_le (Nat.le_refl _), List.take_of_length_le h]
theorem near_fits {a : Int} (h : Near a) : Fits a := Nat.lt_trans h (Nat.pow_lt_pow_right (by decide) (by decide))
theorem near_two {a : Int} (h : Near a) : Fits (2 * a) := by
  have z : (2 * a).natAbs < 2 ^ (2 + 200) := wide_lt (i := 2) (j := a) (a := 2) (b := 200) (by decide) h
  exact Nat.lt_trans z (Nat.pow_lt_pow_right (by decide) (by decide))
theorem okX {D : PyData} (h : Fine D) (hd : D.depth ≤ 49) {ds : List PyData} (t : OkA ds) : OkA (D :: ds) := .cons h.1 hd t
theorem okI {a : Int} (h : Fits a) {ds : List PyData} (t : OkA ds) : OkA (.int a :: ds) := .cons (.int (int_fits h)) (by simp only [PyData.depth]; omega) t
theorem fine_tup {ds : List PyData} (h : OkA ds) (b : PyData.bulkAll ds ≤ 3000) (l : ds.length ≤ 100) (f : ∀ a b, ds = [.int a, .int b] → Fits a ∧ Fits b) : Fine (.tuple ds) := ⟨h.tuple b, fun es e => by injection e with e; rw [← e]; exact l, fun a b e => by injection e with e; exact f a b e⟩
section
variable {σ : L2.St} {H0 : Hp} {x : Addr} {a b : Int} {i : Nat}
theorem WrE.xv (e : σ[i]? = some (some (.ref x))) (hx : SqT K H0 x [.int a, .int b]) : WrE K σ H0 (tVar i) (fr a b) := fun H Q s q => ⟨_, e, q _ H (Same.refl H) (dp_fr (sameT s hx))⟩
theorem WrE.x0 (e : σ[i]? = some (some (.ref x))) (hx : SqT K H0 x [.int a, .int b]) : WrE K σ H0 (tOp (rIxT K) (tVar i) (tC (V.int 0))) (.int a) := fun H Q s q => Ev.ix0 e (sameT s hx) _ (q _ H (Same.refl H) (.int a))
theorem WrE.x1n (e : σ[i]? = some (some (.ref x))) (hx : SqT K H0 x [.int a, .int b]) : WrE K σ H0 (tUn (rU fun i => V.int (-i)) (tOp (rIxT K) (tVar i) (tC (V.int 1)))) (.int (-b)) := fun H Q s q => Ev.ix1 e (sameT s hx) _ ⟨b, rfl, q _ H (Same.refl H) (.int (-b))⟩
theorem WrE.x0d (e : σ[i]? = some (some (.ref x))) (hx : SqT K H0 x [.int a, .int b]) : WrE K σ H0 (tOp (rI CMul fun i j => V.int (i * j)) (tC (V.int 2)) (tOp (rIxT K) (tVar i) (tC (V.int 0)))) (.int (2 * a)) := fun H Q s q => Ev.ix0 e (sameT s hx) _ ⟨_, _, rfl, rfl, .inl ⟨by decide, by decide⟩, q _ H (Same.refl H) (.int (2 * a))⟩
theorem WrE.x1d (e : σ[i]? = some (some (.ref x))) (hx : SqT K H0 x [.int a, .int b]) : WrE K σ H0 (tOp (rI CMul fun i j => V.int (i * j)) (tC (V.int 2)) (tOp (rIxT K) (tVar i) (tC (V.int 1)))) (.int (2 * b)) := fun H Q s q => Ev.ix1 e (sameT s hx) _ ⟨_, _, rfl, rfl, .inl ⟨by decide, by decide⟩, q _ H (Same.refl H) (.int (2 * b))⟩
theorem WrE.xl (e : σ[i]? = some (some (.ref x))) (hx : SqT K H0 x [.int a, .int b]) : WrE K σ H0 (tCB (rListOf K) (tCons (tVar i) tNil)) (.list [.int a, .int b]) := fun H Q s q =>
  ⟨_, e, x, _, rfl, .inr (sameT s hx), fun l nl => q _ _ (same_new nl) (.lst (SqL.of upd_same) (.cons (.int _) (.cons (.int _) .nil)))⟩
theorem WrE.xc (e : σ[i]? = some (some (.ref x))) (hx : SqT K H0 x [.int a, .int b]) : WrE K σ H0 (tOp (rCatU K) (tVar i) (tTup (tCons (tC (V.int 1)) tNil))) (.tuple [.int a, .int b, .int 1]) := fun H Q s q =>
  ⟨_, e, by show 1 ≤ sizeLine; decide, fun o no => ⟨x, o, _, _, rfl, rfl, sameT (s.trans (same_new no)) hx, .inl (.inl upd_same), by show 3 ≤ sizeLine; decide, fun z H3 s3 hz => q _ _ ((same_new no).trans s3) (.tup hz (.cons (.int _) (.cons (.int _) (.cons (.int _) .nil))))⟩⟩
theorem WrE.xs (e : σ[i]? = some (some (.ref x))) (hx : SqT K H0 x [.int a, .int b]) : WrE K σ H0 (tSl (rSlU K) (tVar i) tNoPart (tPart (tC (V.int 1)))) (.tuple [.int a]) := fun H Q s q =>
  ⟨_, e, 1, rfl, x, _, rfl, sameT s hx, fun z H3 s3 hz => q _ _ s3 (.tup (by
    have h := cut_to2 [.int a, .int b] 1
    have hz2 : SqT K H3 z (cutV [.int a, .int b] none (some ((1 : Nat) : Int))) := hz
    rw [h] at hz2
    exact hz2) (.cons (.int a) .nil))⟩
theorem some_lit (e : σ[i]? = some (some (.ref x))) (hx : SqT K H0 x [.int a, .int b]) (na : Near a) (nb : Near b) : WrI K σ H0 (tCons (tVar i) (tCons (tCB (rListOf K) (tCons (tVar i) tNil)) (tCons (tOp (rCatU K) (tVar i) (tTup (tCons (tC (V.int 1)) tNil))) (tCons (tSl (rSlU K) (tVar i) tNoPart (tPart (tC (V.int 1))))
    (tCons (tTup (tCons (tOp (rIxT K) (tVar i) (tC (V.int 0))) (tCons (tUn (rU fun i => V.int (-i)) (tOp (rIxT K) (tVar i) (tC (V.int 1)))) tNil)))
    (tCons (tTup (tCons (tOp (rI CMul fun i j => V.int (i * j)) (tC (V.int 2)) (tOp (rIxT K) (tVar i) (tC (V.int 0)))) (tCons (tOp (rI CMul fun i j => V.int (i * j)) (tC (V.int 2)) (tOp (rIxT K) (tVar i) (tC (V.int 1)))) tNil)))
    (tCons (tTup (tCons (tOp (rIxT K) (tVar i) (tC (V.int 0))) (tCons (tC (V.int 0)) tNil))) (tCons (tTup (tCons (tOp (rIxT K) (tVar i) (tC (V.int 0))) (tCons (tC (V.bl true)) tNil))) (tCons (tTup (tCons (tOp (rIxT K) (tVar i) (tC (V.int 0))) (tCons (tC V.non) tNil))) tNil))))))))) 9 := by
  have fa := near_fits na
  have fb := near_fits nb
  have f0 : Fits 0 := show (0 : Int).natAbs < 2 ^ 2000 by decide +kernel
  have f1 : Fits 1 := show (1 : Int).natAbs < 2 ^ 2000 by decide +kernel
  have fn : Fits (-b) := by
    unfold Fits
    rw [Int.natAbs_neg]
    exact fb
  have bt : Fine (.bool true) := fine_by (by decide +kernel) nofun nofun
  have nn : Fine PyData.none := fine_by (by decide +kernel) nofun nofun
  have d0 : (PyData.bool true).depth ≤ 49 := by decide +kernel
  have d1 : PyData.none.depth ≤ 49 := by decide +kernel
  have two : ∀ x y : Int, ∀ a b : Int, [PyData.int x, .int y] = [.int a, .int b] → Fits x → Fits y → Fits a ∧ Fits b := fun x y a b e hx hy => by
    cases e
    exact ⟨hx, hy⟩
  have bl : ∀ x y : Int, PyData.bulkAll [.int x, .int y] ≤ 3000 := fun x y => by
    simp only [PyData.bulkAll, PyData.bulk]
    omega
  refine .cons (.xv e hx) (fine_tup (okI fa (okI fb .nil)) (bl _ _) (by show 2 ≤ 100; decide) (fun _ _ e => two _ _ _ _ e fa fb)) ?_
  refine .cons (.xl e hx) ⟨(okI fa (okI fb .nil)).list (bl _ _), nofun, nofun⟩ ?_
  refine .cons (.xc e hx) (fine_tup (okI fa (okI fb (okI f1 .nil))) (by simp only [PyData.bulkAll, PyData.bulk]; omega) (by show 3 ≤ 100; decide) nofun) ?_
  refine .cons (.xs e hx) (fine_tup (okI fa .nil) (by simp only [PyData.bulkAll, PyData.bulk]; omega) (by show 1 ≤ 100; decide) nofun) ?_
  refine .cons (.tup (.cons (.x0 e hx) (.cons (.x1n e hx) .nil)) (by show 2 ≤ 1000; decide)) (fine_tup (okI fa (okI fn .nil)) (bl _ _) (by show 2 ≤ 100; decide) (fun _ _ e => two _ _ _ _ e fa fn)) ?_
  refine .cons (.tup (.cons (.x0d e hx) (.cons (.x1d e hx) .nil)) (by show 2 ≤ 1000; decide)) (fine_tup (okI (near_two na) (okI (near_two nb) .nil)) (bl _ _) (by show 2 ≤ 100; decide) (fun _ _ e => two _ _ _ _ e (near_two na) (near_two nb))) ?_
  refine .cons (.tup (.cons (.x0 e hx) (.cons .int .nil)) (by show 2 ≤ 1000; decide)) (fine_tup (okI fa (okI f0 .nil)) (bl _ _) (by show 2 ≤ 100; decide) (fun _ _ e => two _ _ _ _ e fa f0)) ?_
  refine .cons (.tup (.cons (.x0 e hx) (.cons .bl .nil)) (by show 2 ≤ 1000; decide)) (fine_tup (okI fa (okX bt d0 .nil)) (by simp only [PyData.bulkAll, PyData.bulk]; omega) (by show 2 ≤ 100; decide) nofun) ?_
  refine .cons (.tup (.cons (.x0 e hx) (.cons .non .nil)) (by show 2 ≤ 1000; decide)) (fine_tup (okI fa (okX nn d1 .nil)) (by simp only [PyData.bulkAll, PyData.bulk]; omega) (by show 2 ≤ 100; decide) nofun) .nil
end

theorem lc_one {σ : L2.St} {H : Hp} {Q : VK} {i s : Nat} {y : Addr} {xs : List V} (e : σ[i]? = some (some (.ref y))) (hs : s < σ.length) (hy : H y = some (.lst xs)) (hx : ∀ x ∈ xs, ItemX K H x) (q : ∀ (D : Addr) (H2 : Hp), Same H H2 → H2 D = some (.lst []) → Q (.ref D) H2) :
    tLc (iList K (tVar i)) (gName s) (tNot (tB (tCall (spOne K) [] E0 (tCons (tVar s) tNil)))) (tVar s) [s] σ H Q := by
  refine ⟨_, e, y, rfl, ⟨_, SqL.of hy⟩, fun p1 np1 => lc_list (xs := xs) (fun i H2 => Same H H2 ∧ H2 p1 = some (.lst [])) ⟨same_new np1, upd_same⟩ (fun i H2 _ h => h.1.seq (SqL.of hy)) ?_ (fun H2 h => q p1 H2 h.1 h.2)⟩
  rintro j x H2 hj ⟨sF, h2⟩
  obtain ⟨D, hD⟩ := hx x (List.mem_of_getElem? hj)
  exact ⟨wipe1 _ _ _, _, List.getElem?_set_self (by rw [wipe_length]; exact hs), x, D, rfl, hD.same sF, fun H4 s4 => ⟨_, rfl, iteF ⟨sF.trans s4, s4 _ _ h2⟩⟩⟩
/-- a fraction as it is drawn -/
def FracN (K : PySem.W.Frag) (H : Hp) (p : Addr) : Prop := ∃ a b, SqT K H p [.int a, .int b] ∧ Red a b ∧ Near a ∧ Near b
theorem FracN.same {H H2 : Hp} {p : Addr} (s : Same H H2) (h : FracN K H p) : FracN K H2 p := by
  obtain ⟨a, b, h1, h2⟩ := h
  exact ⟨a, b, sameT s h1, h2⟩
theorem two_of {H : Hp} {Q : VK} {E : XK} {p r : Addr} (hp : FracN K H p) (hr : FracN K H r) (q : ∀ H2, Same H H2 → Q (.bl true) H2) : spTwo K [.ref p, .ref r] H Q E := by
  obtain ⟨a, b, h1, h2, h3, h4⟩ := hp
  obtain ⟨u, v, g1, g2, g3, g4⟩ := hr
  exact ⟨p, r, a, b, u, v, rfl, h1, g1, h2, g2, h3, h4, g3, g4, q⟩
theorem lc_two {σ : L2.St} {H : Hp} {Q : VK} {i s : Nat} {y p r : Addr} (e : ∀ x : Option V, ((wipe σ [s]).set s x)[i]? = some (some (.ref y))) (hs : s < σ.length) (hy : H y = some (.lst [.ref p, .ref r])) (hp : FracN K H p) (hr : FracN K H r) (q : ∀ (D : Addr) (H2 : Hp), Same H H2 → H2 D = some (.lst []) → Q (.ref D) H2) :
    tLc (iRng1 (tCons (tC (V.int 2)) tNil)) (gName s) (tNot (tB (tCall (spTwo K) [] E0 (tCons (tOp (rIxL K) (tVar i) (tVar s)) (tCons (tOp (rIxL K) (tVar i) (tOp (rI0 fun i j => V.int (i - j)) (tC (V.int 1)) (tVar s))) tNil))))) (tVar s) [s] σ H Q := by
  refine ⟨2, rfl, by decide, by decide, fun p1 np1 => lc_range (fun i H2 => Same H H2 ∧ H2 p1 = some (.lst [])) ⟨same_new np1, upd_same⟩ ?_ (fun H2 h => q p1 H2 h.1 h.2)⟩
  rintro j H2 hj ⟨sF, h2⟩
  have sv : ∀ z : V, ((wipe σ [s]).set s (some z))[s]? = some (some z) := fun z => List.getElem?_set_self (by rw [wipe_length]; exact hs)
  have hy2 := sF _ _ hy
  obtain ⟨a, b, k1, k2, k3, k4⟩ := hp
  obtain ⟨u, v, g1, g2, g3, g4⟩ := hr
  refine ⟨wipe1 _ _ _, ?_⟩
  rcases j with _ | _ | j
  · exact ⟨_, e _, _, sv _, y, _, 0, _, rfl, rfl, SqL.of hy2, atI_nat (j := 0) rfl, _, e _, _, sv _, _, _, rfl, rfl, y, _, 1, _, rfl, rfl, SqL.of hy2, atI_nat (j := 1) rfl, p, r, a, b, u, v, rfl, sameT sF k1, sameT sF g1, k2, g2, k3, k4, g3, g4, fun H4 s4 => ⟨_, rfl, iteF ⟨sF.trans s4, s4 _ _ h2⟩⟩⟩
  · exact ⟨_, e _, _, sv _, y, _, 1, _, rfl, rfl, SqL.of hy2, atI_nat (j := 1) rfl, _, e _, _, sv _, _, _, rfl, rfl, y, _, 0, _, rfl, rfl, SqL.of hy2, atI_nat (j := 0) rfl, r, p, u, v, a, b, rfl, sameT sF g1, sameT sF k1, g2, k2, g3, g4, k3, k4, fun H4 s4 => ⟨_, rfl, iteF ⟨sF.trans s4, s4 _ _ h2⟩⟩⟩
  · have : j + 1 + 1 < 2 := hj
    omega

theorem nz_tell {σ : L2.St} {H : Hp} {Q : VK} {i : Nat} {z : Int} (e : σ[i]? = some (some (.int z))) (hz : z.natAbs < 10 ^ 60) (q : ∀ y : Int, y ≠ 0 → y.natAbs < 10 ^ 60 → Q (.int y) H) : tIf (tTest (tOp rEq (tVar i) (tC (V.int 0)))) (tC (V.int 1)) (tVar i) σ H Q := by
  refine ⟨_, e, rfl, _, rfl, ite2 (fun _ => q 1 (by decide) (by decide +kernel)) (fun h => ⟨_, e, q z (fun z0 => h ?_) hz⟩)⟩
  rw [z0]
  rfl
theorem asg_wr {n i : Nat} {t : TA} {ts : TS} {D : Ends} {σ : L2.St} {H : Hp} (lit : WrI K σ H t n)
    (q : ∀ y xs H2, Same H H2 → H2 y = none → (∀ x ∈ xs, ItemX K H2 x) → xs.length = n → ts D (σ.set i (some (.ref y))) (upd H2 y (.lst xs))) (hn : n ≤ 1000 := by decide) : tSeq (tAsg (tLst t) (gName i)) ts D σ H :=
  lit H _ (Same.refl H) fun xs H2 s2 hx hl => ⟨Nat.le_of_lt (small1000 (by omega)), fun y ny => q y xs H2 s2 ny hx hl⟩
theorem near_60 {a : Int} (h : a.natAbs < 10 ^ 60) : Near a := Nat.lt_of_lt_of_le h (by decide +kernel)
theorem sqT_upd {H : Hp} {D p : Addr} {xs ys : List V} {o : HO} (h : H D = some (.lst xs)) (t : SqT K H p ys) : SqT K (upd H D o) p ys := by
  rcases t with (t | ⟨u, t⟩) | t
  · exact .inl (.inl (by rw [upd_ne (ne_of t h nofun)]; exact t))
  · exact .inl (.inr ⟨u, by rw [upd_ne (ne_of t h nofun)]; exact t⟩)
  · exact .inr t
theorem deck_upd {d l y : Addr} {c : Nat} {H : Hp} {o : HO} (D : Deck H d l c) (yd : y ≠ d) (yl : y ≠ l) : Deck (upd H y o) d l c := by
  obtain ⟨cs, m, n, h1, h2, h3⟩ := D
  exact ⟨cs, m, n, by rw [upd_ne yd.symm]; exact h1, by rw [upd_ne yl.symm]; exact h2, h3⟩
theorem shaped_str2 {t : Str} (h : PyData.strOk t = true) : SeqAt.shaped (.list [.str t, .str t]) = true := by simp [SeqAt.shaped, PyData.canLay0, PyData.canLayAll0, PyData.depth, PyData.depthAll, h]
theorem eqv_str2 (t : Str) : PyData.eqv (.list [.str t, .str t]) (.list [.str t, .str t]) = true := by simp [PyData.eqv, PyData.eqvAll]
theorem fine_pair {a b : Int} (ha : Fits a) (hb : Fits b) : Fine (.tuple [.int a, .int b]) := fine_tup (okI ha (okI hb .nil)) (by simp only [PyData.bulkAll, PyData.bulk]; omega) (by show 2 ≤ 100; decide) (fun x y e => by cases e; exact ⟨ha, hb⟩)

theorem seq_if_or {r : R2} {t1 t2 : TE} {u : TT} {A B C : TS} {D : Ends} {σ : L2.St} {H : Hp} (h : t1 σ H fun x H1 => t2 σ H1 fun y H2 => r x y H2 fun z H3 => ∃ k, z = .bl k ∧ (if k = true then (if true = true then A { D with nx := C D } σ H3 else B { D with nx := C D } σ H3) else u σ H3 fun c H4 => if c = true then A { D with nx := C D } σ H4 else B { D with nx := C D } σ H4)) :
    tSeq (tIfS (tOr (tTest (tOp r t1 t2)) u) A B) C D σ H := h
theorem if_of {r : R2} {t1 t2 : TE} {A B : TS} {D : Ends} {σ : L2.St} {H : Hp} (h : t1 σ H fun x H1 => t2 σ H1 fun y H2 => r x y H2 fun z H3 => ∃ k, z = .bl k ∧ (if k = true then A D σ H3 else B D σ H3)) :
    tIfS (tTest (tOp r t1 t2)) A B D σ H := h
theorem ret_of {r : R2} {t1 t2 : TE} {D : Ends} {σ : L2.St} {H : Hp} (h : t1 σ H fun x H1 => t2 σ H1 fun y H2 => r x y H2 D.rt) : tRet (tOp r t1 t2) D σ H := h
def spLaw (K : PySem.W.Frag) : Sp := fun vs H Q _ => ∃ (a : Addr) (ns : List Int), vs = [.ref a] ∧ SqL K H a (ns.map V.int) ∧ ns.length ≤ 63 ∧ ∀ H2, Q (.bl true) H2
theorem ok_law {f a1 a2 a3 a4 a5 a6 a7 a8 a9 a10 a11 a12 a13 a14 a15 a16 a17 a18 : Addr} {fd d1 d2 d3 d4 d5 d6 d7 d8 d9 d10 d11 d12 d13 d14 d15 d16 d17 d18 : FuncData} (hdg : base.NoDigits) (F : Fun K "law" "law" s_law f fd)
    (F__law_draw : Fun K "_law_draw" "_law_draw" s__law_draw a1 d1) (m__law_draw : mg "_law_draw" = some (.ref a1)) (b__law_draw : Binds K d1 ["_law_deck_here", "_law_much"] [])
    (F__law_pick : Fun K "_law_pick" "_law_pick" s__law_pick a2 d2) (m__law_pick : mg "_law_pick" = some (.ref a2)) (b__law_pick : Binds K d2 ["_law_deck_here", "_law_some"] [])
    (F__law_deck : Fun K "_law_deck" "_law_deck" s__law_deck a3 d3) (m__law_deck : mg "_law_deck" = some (.ref a3)) (b__law_deck : Binds K d3 ["_law_script"] [])
    (F__law_ratio : Fun K "_law_ratio" "_law_ratio" s__law_ratio a4 d4) (m__law_ratio : mg "_law_ratio" = some (.ref a4)) (b__law_ratio : Binds K d4 ["_law_up", "_law_down"] [])
    (F__law_whole : Fun K "_law_whole" "_law_whole" s__law_whole a5 d5) (m__law_whole : mg "_law_whole" = some (.ref a5)) (b__law_whole : Binds K d5 ["_law_deck_here"] [])
    (F__law_is_whole : Fun K "_law_is_whole" "_law_is_whole" s__law_is_whole a6 d6) (m__law_is_whole : mg "_law_is_whole" = some (.ref a6)) (b__law_is_whole : Binds K d6 ["_law_it"] [])
    (F__law_is_fraction : Fun K "_law_is_fraction" "_law_is_fraction" s__law_is_fraction a7 d7) (m__law_is_fraction : mg "_law_is_fraction" = some (.ref a7)) (b__law_is_fraction : Binds K d7 ["_law_it"] [])
    (F__law_page : Fun K "_law_page" "_law_page" s__law_page a8 d8) (m__law_page : mg "_law_page" = some (.ref a8)) (b__law_page : Binds K d8 ["_law_it"] [])
    (F__law_one_right : Fun K "_law_one_right" "_law_one_right" s__law_one_right a9 d9) (m__law_one_right : mg "_law_one_right" = some (.ref a9)) (b__law_one_right : Binds K d9 ["_law_it"] [])
    (F__law_two_right : Fun K "_law_two_right" "_law_two_right" s__law_two_right a10 d10) (m__law_two_right : mg "_law_two_right" = some (.ref a10)) (b__law_two_right : Binds K d10 ["_law_x", "_law_y"] [])
    (G_is_fraction : GFn P w K mg base CX0 4 a11 d11 ["thing"] (spIsFrac K)) (F_is_fraction : Fun K "is_fraction" "is_fraction" s_is_fraction a11 d11) (m_is_fraction : mg "is_fraction" = some (.ref a11)) (b_is_fraction : Binds K d11 ["thing"] []) (kb_is_fraction_thing : KBinds K d11 ["thing"] ["thing"] kwOne kwOne)
    (G_fraction : GFn P w K mg base CX0 4 a12 d12 ["top", "bottom"] (spRatio K)) (F_fraction : Fun K "fraction" "fraction" s_fraction a12 d12) (m_fraction : mg "fraction" = some (.ref a12)) (b_fraction : Binds K d12 ["top", "bottom"] []) (kb_fraction_bottom_top : KBinds K d12 ["top", "bottom"] ["bottom", "top"] kwTurn kwTurn)
    (G_plus : GFn P w K mg base CX0 4 a13 d13 ["one", "other"] (spPlus K)) (F_plus : Fun K "plus" "plus" s_plus a13 d13) (m_plus : mg "plus" = some (.ref a13)) (b_plus : Binds K d13 ["one", "other"] []) (kb_plus_other_one : KBinds K d13 ["one", "other"] ["other", "one"] kwTurn kwTurn)
    (G_minus : GFn P w K mg base CX0 4 a14 d14 ["one", "other"] (spMinus K)) (F_minus : Fun K "minus" "minus" s_minus a14 d14) (m_minus : mg "minus" = some (.ref a14)) (b_minus : Binds K d14 ["one", "other"] []) (kb_minus_other_one : KBinds K d14 ["one", "other"] ["other", "one"] kwTurn kwTurn)
    (G_times : GFn P w K mg base CX0 4 a15 d15 ["one", "other"] (spTimes K)) (F_times : Fun K "times" "times" s_times a15 d15) (m_times : mg "times" = some (.ref a15)) (b_times : Binds K d15 ["one", "other"] []) (kb_times_other_one : KBinds K d15 ["one", "other"] ["other", "one"] kwTurn kwTurn)
    (G_over : GFn P w K mg base CX0 4 a16 d16 ["one", "other"] (spOver K)) (F_over : Fun K "over" "over" s_over a16 d16) (m_over : mg "over" = some (.ref a16)) (b_over : Binds K d16 ["one", "other"] []) (kb_over_other_one : KBinds K d16 ["one", "other"] ["other", "one"] kwTurn kwTurn)
    (G_is_less : GFn P w K mg base CX0 4 a17 d17 ["one", "other"] (spLess K)) (F_is_less : Fun K "is_less" "is_less" s_is_less a17 d17) (m_is_less : mg "is_less" = some (.ref a17)) (b_is_less : Binds K d17 ["one", "other"] []) (kb_is_less_other_one : KBinds K d17 ["one", "other"] ["other", "one"] kwTurn kwTurn)
    (G_fraction_text : GFn P w K mg base CX0 4 a18 d18 ["one"] (spPage K)) (F_fraction_text : Fun K "fraction_text" "fraction_text" s_fraction_text a18 d18) (m_fraction_text : mg "fraction_text" = some (.ref a18)) (b_fraction_text : Binds K d18 ["one"] []) (kb_fraction_text_one : KBinds K d18 ["one"] ["one"] kwOne kwOne)
    (T : Txt mg) : GFn P w K mg base CX0 6 f fd ["_law_script"] (spLaw K) := by
  have G__law_deck : GFn P w K mg base CX0 1 a3 d3 ["_law_script"] (spDeck K) := ok_deck F__law_deck T
  have G__law_ratio : GFn P w K mg base CX0 1 a4 d4 ["_law_up", "_law_down"] (spRatio K) := ok_ratio F__law_ratio T
  have G__law_whole : GFn P w K mg base CX0 3 a5 d5 ["_law_deck_here"] (spWhole K) := ok_whole F__law_whole F__law_draw m__law_draw b__law_draw F__law_pick m__law_pick b__law_pick T
  have G__law_page : GFn P w K mg base CX0 1 a8 d8 ["_law_it"] (spPage K) := ok_page F__law_page T
  have G__law_one_right : GFn P w K mg base CX0 5 a9 d9 ["_law_it"] (spOne K) := ok_one hdg F__law_one_right F__law_is_whole m__law_is_whole b__law_is_whole F__law_ratio m__law_ratio b__law_ratio F__law_is_fraction m__law_is_fraction b__law_is_fraction G_is_fraction F_is_fraction m_is_fraction b_is_fraction kb_is_fraction_thing T
  have G__law_two_right : GFn P w K mg base CX0 5 a10 d10 ["_law_x", "_law_y"] (spTwo K) := ok_two hdg F__law_two_right F__law_ratio m__law_ratio b__law_ratio G_plus F_plus m_plus b_plus kb_plus_other_one G_minus F_minus m_minus b_minus kb_minus_other_one G_times F_times m_times b_times kb_times_other_one G_over F_over m_over b_over kb_over_other_one G_is_less F_is_less m_is_less b_is_less kb_is_less_other_one T
  refine gfun_ok F sc_law (fun vs H Q E h => ?_) (fun cdv A outer s H vs Q E hgu hr h => ?_)
  · obtain ⟨a, ns, rfl, _⟩ := h
    rfl
  · obtain ⟨a, ns, rfl, hS, hlen, q⟩ := h
    have nd := sc_law.nd
    refine ⟨_, (pss_cons (ps_set (i := 1) nd rfl (Or.inl rfl) (pe_g G__law_deck hgu (hr.mono (by decide)) (by rfl) m__law_deck F__law_deck.kp b__law_deck .nil pass0 (pa_cons (pv 0) pa_nil)))
      (pss_cons (ps_for PassesOwn.never rfl (pi_range1 rfl T.range (pa_cons pe_int pa_nil)) (pg_name (i := 2) nd rfl (Or.inl rfl))
        (pss_cons (ps_set (i := 3) nd rfl (Or.inr rfl) (pe_lst pa_nil))
      (pss_cons (ps_for PassesOwn.never rfl (pi_range1 rfl T.range (pa_cons pe_int pa_nil)) (pg_name (i := 4) nd rfl (Or.inl rfl))
        (pss_cons (ps_par (i := 5) (j := 6) rfl nd rfl rfl (by decide) rfl rfl (pa_cons (pe_g G__law_whole hgu (hr.mono (by decide)) (by rfl) m__law_whole F__law_whole.kp b__law_whole .nil pass0 (pa_cons (pv 1) pa_nil)) (pa_cons (pe_g G__law_whole hgu (hr.mono (by decide)) (by rfl) m__law_whole F__law_whole.kp b__law_whole .nil pass0 (pa_cons (pv 1) pa_nil)) pa_nil)) (by rfl))
      (pss_cons (ps_set (i := 6) nd rfl (Or.inl rfl) (pe_ifExp (pt_cmpR op_eq (pv 6) pe_int (nomark _)) pe_int (pv 6)))
      (pss_cons (ps_set (i := 7) nd rfl (Or.inl rfl) (pe_g G__law_ratio hgu (hr.mono (by decide)) (by rfl) m__law_ratio F__law_ratio.kp b__law_ratio .nil pass0 (pa_cons (pv 5) (pa_cons (pv 6) pa_nil))))
      (pss_cons (ps_if (pt_cmpR op_ne (pe_callB (k_repr (K := K) hdg hgu hr) (by rfl) T.repr (by decide +kernel) (pa_cons (pe_lst (pa_cons (pe_g G_fraction hgu (hr.mono (by decide)) (by rfl) m_fraction F_fraction.kp b_fraction .nil pass0 (pa_cons (pv 5) (pa_cons (pv 6) pa_nil))) (pa_cons (pe_gK0 G_fraction hgu (hr.mono (by decide)) (by rfl) m_fraction F_fraction.kp kb_fraction_bottom_top pass0 (pk_cons (pv 6) (pk_cons (pv 5) pk_nil))) pa_nil))) pa_nil)) (pe_callB (k_repr (K := K) hdg hgu hr) (by rfl) T.repr (by decide +kernel) (pa_cons (pe_lst (pa_cons (pv 7) (pa_cons (pv 7) pa_nil))) pa_nil)) (nomark _)) (pss_one (ps_ret pe_bl)) pss_nil)
      (pss_cons (ps_if (pt_cmpR (k_neD (K := K) hr.units) (pe_lst (pa_cons (pe_g G_fraction_text hgu (hr.mono (by decide)) (by rfl) m_fraction_text F_fraction_text.kp b_fraction_text .nil pass0 (pa_cons (pv 7) pa_nil)) (pa_cons (pe_gK0 G_fraction_text hgu (hr.mono (by decide)) (by rfl) m_fraction_text F_fraction_text.kp kb_fraction_text_one pass0 (pk_cons (pv 7) pk_nil)) pa_nil))) (pe_op op_rep (pe_lst (pa_cons (pe_g G__law_page hgu (hr.mono (by decide)) (by rfl) m__law_page F__law_page.kp b__law_page .nil pass0 (pa_cons (pv 7) pa_nil)) pa_nil)) pe_int) (nomark _)) (pss_one (ps_ret pe_bl)) pss_nil)
      (pss_cons (ps_if (pt_not (pt_val (pe_g G__law_one_right hgu (hr.mono (by decide)) (by rfl) m__law_one_right F__law_one_right.kp b__law_one_right .nil pass0 (pa_cons (pe_tup (pa_cons (pv 5) (pa_cons (pv 6) pa_nil))) pa_nil)))) (pss_one (ps_ret pe_bl)) pss_nil)
      (pss_one (ps_expr (pe_bm PySem.F.plainAttrs_list PySem.F.slot_list_append PySem.F.type_list_append mt_append (pv 3) (pa_cons (pv 7) pa_nil)))))))))))
      (pss_cons (ps_if (PW.pt (pw_or (pt_cmpR (k_neD (K := K) hr.units) (pe_lc (own := [("_law_k", 10)]) rfl nd (pi_range1 rfl T.range (pa_cons pe_int pa_nil)) (blkOk_by (N := N_law) (sc := defScope s_law) (by decide +kernel)) (fun _ _ _ _ _ => (pg_name (i := 10) nd rfl (Or.inl rfl))) (fun _ _ _ _ _ => (pts_one (pt_not (pt_val (pe_g G__law_two_right hgu (hr.mono (by decide)) (by rfl) m__law_two_right F__law_two_right.kp b__law_two_right .nil pass0 (pa_cons (pe_ix (k_ixL (K := K)) (pv 3) (pv 10) (fun _ _ => rfl)) (pa_cons (pe_ix (k_ixL (K := K)) (pv 3) (pe_op op_sub pe_int (pv 10)) (fun _ _ => rfl)) pa_nil))))))) (fun _ _ _ _ _ => (pv 10))) (pe_lst pa_nil) (nomark _)) (pw_or1 (pt_not (pt_val (pe_g G__law_two_right hgu (hr.mono (by decide)) (by rfl) m__law_two_right F__law_two_right.kp b__law_two_right .nil pass0 (pa_cons (pe_ix (k_ixL (K := K)) (pv 3) pe_int (fun _ _ => rfl)) (pa_cons (pe_ix (k_ixL (K := K)) (pv 3) pe_int (fun _ _ => rfl)) pa_nil)))))))) (pss_one (ps_ret pe_bl)) pss_nil)
      (pss_cons (ps_set (i := 8) nd rfl (Or.inl rfl) (pe_ix (k_ixL (K := K)) (pv 3) pe_int (fun _ _ => rfl)))
      (pss_cons (ps_set (i := 9) nd rfl (Or.inl rfl) (pe_lst (pa_cons (pv 8) (pa_cons (pe_callTy (k_listOf (K := K)) (by rfl) T.list (by decide +kernel) (pa_cons (pv 8) pa_nil)) (pa_cons (pe_op (k_catU (K := K)) (pv 8) (pe_tup (pa_cons pe_int pa_nil))) (pa_cons (pe_slice (k_slU (K := K)) (pv 8) po_none (po_some pe_int)) (pa_cons (pe_tup (pa_cons (pe_ix (k_ixT (K := K)) (pv 8) pe_int (fun _ _ => rfl)) (pa_cons (pe_un un_neg (pe_ix (k_ixT (K := K)) (pv 8) pe_int (fun _ _ => rfl))) pa_nil))) (pa_cons (pe_tup (pa_cons (pe_op op_mul pe_int (pe_ix (k_ixT (K := K)) (pv 8) pe_int (fun _ _ => rfl))) (pa_cons (pe_op op_mul pe_int (pe_ix (k_ixT (K := K)) (pv 8) pe_int (fun _ _ => rfl))) pa_nil))) (pa_cons (pe_tup (pa_cons (pe_ix (k_ixT (K := K)) (pv 8) pe_int (fun _ _ => rfl)) (pa_cons pe_int pa_nil))) (pa_cons (pe_tup (pa_cons (pe_ix (k_ixT (K := K)) (pv 8) pe_int (fun _ _ => rfl)) (pa_cons pe_bl pa_nil))) (pa_cons (pe_tup (pa_cons (pe_ix (k_ixT (K := K)) (pv 8) pe_int (fun _ _ => rfl)) (pa_cons pe_non pa_nil))) pa_nil)))))))))))
      (pss_one (ps_if (pt_cmpR (k_neD (K := K) hr.units) (pe_lc (own := [("_law_it", 11)]) rfl nd (pi_list (pv 9)) (blkOk_by (N := N_law) (sc := defScope s_law) (by decide +kernel)) (fun _ _ _ _ _ => (pg_name (i := 11) nd rfl (Or.inl rfl))) (fun _ _ _ _ _ => (pts_one (pt_not (pt_val (pe_g G__law_one_right hgu (hr.mono (by decide)) (by rfl) m__law_one_right F__law_one_right.kp b__law_one_right .nil pass0 (pa_cons (pv 11) pa_nil)))))) (fun _ _ _ _ _ => (pv 11))) (pe_lst pa_nil) (nomark _)) (pss_one (ps_ret pe_bl)) pss_nil))))))))
      (pss_cons (ps_set (i := 9) nd rfl (Or.inl rfl) (pe_lst (pa_cons pe_non (pa_cons pe_int (pa_cons pe_int (pa_cons pe_bl (pa_cons pe_str (pa_cons (pe_tup pa_nil) (pa_cons (pe_tup (pa_cons pe_int (pa_cons pe_int pa_nil))) (pa_cons (pe_tup (pa_cons pe_int (pa_cons pe_int pa_nil))) (pa_cons (pe_tup (pa_cons pe_int (pa_cons pe_int pa_nil))) (pa_cons (pe_tup (pa_cons pe_bl (pa_cons pe_int pa_nil))) (pa_cons (pe_tup (pa_cons pe_bl (pa_cons pe_bl pa_nil))) (pa_cons (pe_tup (pa_cons pe_str (pa_cons pe_int pa_nil))) (pa_cons pe_dnewK (pa_cons (pe_lst pa_nil) pa_nil))))))))))))))))
      (pss_cons (ps_expr (pe_bm PySem.F.plainAttrs_list PySem.F.slot_list_append PySem.F.type_list_append mt_append (pv 9) (pa_cons (pe_tup (pa_cons (pe_tup (pa_cons pe_int (pa_cons pe_int pa_nil))) (pa_cons pe_int pa_nil))) pa_nil)))
      (pss_one (ps_ret (pe_cmpR (k_eqD (K := K) hr.units) (pe_lc (own := [("_law_it", 11)]) rfl nd (pi_list (pv 9)) (blkOk_by (N := N_law) (sc := defScope s_law) (by decide +kernel)) (fun _ _ _ _ _ => (pg_name (i := 11) nd rfl (Or.inl rfl))) (fun _ _ _ _ _ => (pts_one (pt_not (pt_val (pe_g G__law_one_right hgu (hr.mono (by decide)) (by rfl) m__law_one_right F__law_one_right.kp b__law_one_right .nil pass0 (pa_cons (pv 11) pa_nil)))))) (fun _ _ _ _ _ => (pv 11))) (pe_lst pa_nil) (nomark _)))))))), ?_⟩
    refine ⟨.ref a, rfl, a, ns, rfl, hS, hlen, fun d l H1 D1 s1 => ?_⟩
    refine ⟨4, rfl, by decide, by decide, for_range (lo := 0) (n := 4) (fun i σ HI => ∃ (y2 y3 y4 y5 y6 y7 y8 y9 : Option V), σ = [some (.ref a), some (.ref d), y2, y3, y4, y5, y6, y7, y8, y9, none, none] ∧ Deck HI d l (i * 100)) ⟨none, none, none, none, none, none, none, none, rfl, D1⟩ ?_ ?_⟩
    · rintro i σ HI hi ⟨y2, y3, y4, y5, y6, y7, y8, y9, rfl, DI⟩
      refine ⟨Nat.zero_le _, fun y ny => ?_⟩
      obtain ⟨yd, yl⟩ := DI.ne ny
      have D2 := DI.upd (o := .lst []) ny
      have hy0 : (upd HI y (.lst [])) y = some (.lst []) := upd_same
      generalize upd HI y (.lst []) = H2 at D2 hy0 ⊢
      refine ⟨2, rfl, by decide, by decide, for_range (lo := 0) (n := 2) (fun j σ HJ => ∃ (ps : List Addr) (z4 z5 z6 z7 : Option V), σ = [some (.ref a), some (.ref d), some (.int (0 + i)), some (.ref y), z4, z5, z6, z7, y8, y9, none, none] ∧ Deck HJ d l (i * 100 + j * 20) ∧ HJ y = some (.lst (ps.map V.ref)) ∧ ps.length = j ∧ ∀ p ∈ ps, FracN K HJ p)
        ⟨[], y4, y5, y6, y7, rfl, D2, hy0, rfl, fun p hp => nomatch hp⟩ ?_ ?_⟩
      · rintro j σ HJ hj ⟨ps, z4, z5, z6, z7, rfl, DJ, hyJ, hl, hps⟩
        refine ⟨_, rfl, d, l, _, rfl, DJ, by omega, fun up H3 hup D3 k3 => ⟨_, rfl, d, l, _, rfl, D3, by omega, fun dn H4 hdn D4 k4 => ⟨_, _, rfl, ?_⟩⟩⟩
        refine nz_tell rfl hdn fun dn h0 hdn => ?_
        have fu := near_fits (near_60 hup)
        have fd := near_fits (near_60 hdn)
        refine ⟨_, rfl, _, rfl, up, dn, rfl, h0, fu, fd, fun w0 H5 s5 h5 => ?_⟩
        have nN : Near (ratN up dn) := near_60 (Nat.lt_of_le_of_lt (ratN_abs h0) hup)
        have nD : Near (ratD up dn) := near_60 (Nat.lt_of_le_of_lt (ratD_abs h0) hdn)
        have okF := ok_fr (near_fits nN) (near_fits nD)
        have ok2 := ok_fr2 okF okF
        refine ⟨_, rfl, _, rfl, up, dn, rfl, h0, fu, fd, fun w1 H6 s6 h6 => ⟨_, rfl, _, rfl, up, dn, rfl, h0, fu, fd, fun w2 H7 s7 h7 => ⟨by show 2 ≤ sizeLine; decide, fun g ng => ?_⟩⟩⟩
        have sg := same_new (o := .lst [.ref w1, .ref w2]) ng
        refine ⟨_, rfl, .inl ⟨.list [fr _ _, fr _ _], .lst (SqL.of upd_same) (.cons (dp_fr (sameT (s7.trans sg) h6)) (.cons (dp_fr (sameT sg h7)) .nil)), ok2.tell, Nat.le_trans ok2.dep (by decide), ok2.shown, ?_⟩⟩
        have s8 := (s6.trans s7).trans sg
        generalize upd H7 g (.lst [.ref w1, .ref w2]) = H8 at s8 ⊢
        have h8 := sameT s8 h5
        refine ⟨_, rfl, _, rfl, by show 2 ≤ sizeLine; decide, fun g2 ng2 => ?_⟩
        have sg2 := same_new (o := .lst [.ref w0, .ref w0]) ng2
        refine ⟨_, rfl, .inl ⟨.list [fr _ _, fr _ _], .lst (SqL.of upd_same) (.cons (dp_fr (sameT sg2 h8)) (.cons (dp_fr (sameT sg2 h8)) .nil)), ok2.tell, Nat.le_trans ok2.dep (by decide), ok2.shown, ?_⟩⟩
        refine rNe_same ⟨_, rfl, iteF ?_⟩
        have h9 := sameT sg2 h8
        have s9 := s8.trans sg2
        generalize upd H8 g2 (.lst [.ref w0, .ref w0]) = H9 at s9 h9 ⊢
        -- the texts
        have pk := pageOk (ratN up dn) (ratD up dn)
        refine ⟨_, rfl, w0, _, _, rfl, h9, nN, nD, fun Ha sa => ⟨_, rfl, w0, _, _, rfl, sameT sa h9, nN, nD, fun Hb sb => ⟨by show 2 ≤ sizeLine; decide, fun g3 ng3 => ⟨_, rfl, w0, _, _, rfl, sameT ((sa.trans sb).trans (same_new ng3)) h9, nN, nD, fun Hc sc => ⟨by show 1 ≤ sizeLine; decide, fun g4 ng4 => ⟨g4, 2, [.str (pageS (ratN up dn) (ratD up dn))], rfl, rfl, upd_same, by decide, by decide, (by show 1 * 2 ≤ sizeLine; decide), fun g5 ng5 => ?_⟩⟩⟩⟩⟩⟩
        have t3 := sc.trans ((same_new (o := .lst [.str (pageS (ratN up dn) (ratD up dn))]) ng4).trans (same_new (o := .lst (List.replicate (Int.toNat 2) [V.str (pageS (ratN up dn) (ratD up dn))]).flatten) ng5))
        have t4 := ((sa.trans sb).trans (same_new (o := .lst [.str (pageS (ratN up dn) (ratD up dn)), .str (pageS (ratN up dn) (ratD up dn))]) ng3)).trans t3
        refine ⟨.list [.str (pageS (ratN up dn) (ratD up dn)), .str (pageS (ratN up dn) (ratD up dn))], .list [.str (pageS (ratN up dn) (ratD up dn)), .str (pageS (ratN up dn) (ratD up dn))], .lst (SqL.of (t3 _ _ upd_same)) (.cons (.str _) (.cons (.str _) .nil)), .lst (SqL.of upd_same) (.cons (.str _) (.cons (.str _) .nil)), shaped_str2 pk, shaped_str2 pk, _, rfl, ?_⟩
        rw [eqv_str2]
        refine iteF ?_
        generalize upd (upd Hc g4 (.lst [.str (pageS (ratN up dn) (ratD up dn))])) g5 (.lst (List.replicate (Int.toNat 2) [V.str (pageS (ratN up dn) (ratD up dn))]).flatten) = H10 at t4 ⊢
        have h10 := sameT t4 h9
        -- the pair
        refine ⟨_, rfl, _, rfl, by show 2 ≤ sizeLine; decide, fun u nu => ⟨.ref u, .tuple [.int up, .int dn], rfl, ?_, fun Hd sd => ⟨true, rfl, iteF ?_⟩⟩⟩
        · have fp := fine_pair fu fd
          exact ⟨.inl (.tup (.inl (.inl upd_same)) (.cons (.int up) (.cons (.int dn) .nil))), .inr fp.1, fp.2.1, fp.2.2⟩
        have s11 := ((s5.trans s9).trans t4).trans ((same_new (o := .tup [.int up, .int dn]) nu).trans sd)
        have kall : Kept d l HJ Hd := (k3.trans k4).trans (.of s11)
        have hy11 := kall _ _ hyJ yd yl
        have D11 := D4.same s11
        have h11 : SqT K Hd w0 _ := sameT ((same_new (o := .tup [.int up, .int dn]) nu).trans sd) h10
        refine ⟨_, rfl, .inl ⟨rfl, _, SqL.of hy11⟩, _, rfl, y, _, _, rfl, rfl, hy11, ?_, ?_⟩
        · rw [List.length_map]
          exact small1000 (by omega)
        · refine ⟨ps ++ [w0], _, _, _, _, rfl, (deck_upd D11 yd yl).mono (by omega), ?_, by rw [List.length_append, hl]; rfl, fun p hp => ?_⟩
          · rw [upd_same, List.map_append]
            rfl
          · rcases List.mem_append.mp hp with hp | hp
            · obtain ⟨a1, b1, q1, q2⟩ := hps p hp
              exact ⟨a1, b1, sqT_upd hy11 (kall.tup DJ q1), q2⟩
            · rw [List.mem_singleton.mp hp]
              exact ⟨_, _, sqT_upd hy11 h11, rat_red h0, nN, nD⟩
      · rintro σ HJ ⟨ps, z4, z5, z6, z7, rfl, DJ, hyJ, hl, hps⟩
        obtain ⟨p, r, rfl⟩ : ∃ p r, ps = [p, r] := by
          rcases ps with _ | ⟨p, _ | ⟨r, _ | ⟨t, ts⟩⟩⟩
          · cases hl
          · cases hl
          · exact ⟨p, r, rfl⟩
          · simp at hl
        have fp := hps p (by simp)
        have fq := hps r (by simp)
        obtain ⟨u, v, p1, p2, p3, p4⟩ := id fp
        refine seq_if_or (lc_two (K := K) (fun x => rfl) (by show 10 < 12; decide) hyJ fp fq fun E1 H3 s3 hE => ⟨Nat.zero_le _, fun z nz => ?_⟩)
        have sz := same_new (o := .lst []) nz
        refine ⟨.list [], .list [], .lst (SqL.of (sz _ _ hE)) .nil, .lst (SqL.of upd_same) .nil, rfl, rfl, _, rfl, ?_⟩
        rw [eqv_nil]
        refine iteF ?_
        have s4 := s3.trans sz
        have hy4 := s4 _ _ hyJ
        generalize upd H3 z (.lst []) = H4 at s4 hy4 ⊢
        refine ⟨_, rfl, y, _, 0, _, rfl, rfl, SqL.of hy4, atI_nat (j := 0) rfl, _, rfl, y, _, 0, _, rfl, rfl, SqL.of hy4, atI_nat (j := 0) rfl, p, p, u, v, u, v, rfl, sameT s4 p1, sameT s4 p1, p2, p2, p3, p4, p3, p4, fun H5 s5 => ⟨true, rfl, iteF ?_⟩⟩
        have s05 := s4.trans s5
        refine ⟨_, rfl, y, _, 0, _, rfl, rfl, SqL.of (s05 _ _ hyJ), atI_nat (j := 0) rfl, ?_⟩
        refine asg_wr (some_lit (K := K) (i := 8) (x := p) (a := u) (b := v) rfl (sameT s05 p1) p3 p4) fun g xs H6 s6 ng hx hl => ?_
        have sg := same_new (o := .lst xs) ng
        have hg : (upd H6 g (.lst xs)) g = some (.lst xs) := upd_same
        have s07 := (s05.trans s6).trans sg
        have hx := fun x hm => (hx x hm).same sg
        generalize upd H6 g (.lst xs) = H7 at s07 hg hx ⊢
        refine if_of (lc_one (K := K) rfl (by show 11 < 12; decide) hg hx fun E2 H8 s8 hE2 => ⟨Nat.zero_le _, fun z2 nz2 => ?_⟩)
        have sz2 := same_new (o := .lst []) nz2
        refine ⟨.list [], .list [], .lst (SqL.of (sz2 _ _ hE2)) .nil, .lst (SqL.of upd_same) .nil, rfl, rfl, _, rfl, ?_⟩
        rw [eqv_nil]
        refine iteF ?_
        exact ⟨_, _, _, _, _, _, _, _, rfl, (DJ.same ((s07.trans s8).trans sz2)).mono (by omega)⟩
    · rintro σ HI ⟨y2, y3, y4, y5, y6, y7, y8, y9, rfl, DI⟩
      refine asg_wr (last_lit (K := K)) fun g xs H6 s6 ng hx hl => ?_
      have hg : (upd H6 g (.lst xs)) g = some (.lst xs) := upd_same
      have s67 := same_new (o := .lst xs) ng
      generalize upd H6 g (.lst xs) = H7 at hg s67 ⊢
      refine ⟨_, rfl, .inl ⟨rfl, _, SqL.of hg⟩, by show 2 ≤ sizeLine; decide, fun t nt => ⟨by show 2 ≤ sizeLine; decide, fun t2 nt2 => ?_⟩⟩
      have s2 := (same_new (o := .tup [.int 1, .int 2]) nt).trans (same_new (o := .tup [.ref t, .int 1]) nt2)
      have ht := same_new (o := .tup [.ref t, .int 1]) nt2 _ _ (show (upd H7 t (.tup [.int 1, .int 2])) t = some (.tup [.int 1, .int 2]) from upd_same)
      have ht2 : (upd (upd H7 t (.tup [.int 1, .int 2])) t2 (.tup [.ref t, .int 1])) t2 = some (.tup [.ref t, .int 1]) := upd_same
      have hg2 := s2 _ _ hg
      have s68 := s67.trans s2
      generalize upd (upd H7 t (.tup [.int 1, .int 2])) t2 (.tup [.ref t, .int 1]) = H8 at s68 ht ht2 hg2 ⊢
      refine ⟨g, _, _, rfl, rfl, hg2, small1000 (by omega), ?_⟩
      have s69 : Same H6 (upd H8 g (.lst (xs ++ [.ref t2]))) := fun b o e => by
        rw [upd_ne (ne_of_none e ng)]
        exact s68 _ _ e
      have hg9 : (upd H8 g (.lst (xs ++ [.ref t2]))) g = some (.lst (xs ++ [.ref t2])) := upd_same
      have it : ItemX K (upd H8 g (.lst (xs ++ [.ref t2]))) (.ref t2) := by
        have q1 : SqT K (upd H8 g (.lst (xs ++ [.ref t2]))) t [.int 1, .int 2] := sqT_upd hg2 (.inl (.inl ht))
        have q2 : SqT K (upd H8 g (.lst (xs ++ [.ref t2]))) t2 [.ref t, .int 1] := sqT_upd hg2 (.inl (.inl ht2))
        have f : Fine (.tuple [.tuple [.int 1, .int 2], .int 1]) := fine_by (by decide +kernel) (fun ds e => by cases e; decide) nofun
        exact ⟨_, .inl (.tup q2 (.cons (.tup q1 (.cons (.int _) (.cons (.int _) .nil))) (.cons (.int _) .nil))), .inr f.1, f.2.1, f.2.2⟩
      have hx9 : ∀ x ∈ xs ++ [V.ref t2], ItemX K (upd H8 g (.lst (xs ++ [.ref t2]))) x := fun x hm => by
        rcases List.mem_append.mp hm with hm | hm
        · exact (hx x hm).same s69
        · rw [List.mem_singleton.mp hm]
          exact it
      generalize upd H8 g (.lst (xs ++ [.ref t2])) = H9 at hg9 hx9 ⊢
      refine ret_of (lc_one (K := K) rfl (by show 11 < 12; decide) hg9 hx9 fun E2 H10 s10 hE2 => ⟨Nat.zero_le _, fun z2 nz2 => ?_⟩)
      have sz2 := same_new (o := .lst []) nz2
      refine ⟨.list [], .list [], .lst (SqL.of (sz2 _ _ hE2)) .nil, .lst (SqL.of upd_same) .nil, rfl, rfl, ?_⟩
      rw [eqv_nil]
      exact q _
end
end SG

namespace SG
open PySem PySem.Spec PyProof.Rows L2 TL
open SX (S S_tl S_len S_cat)
section
variable {P : Program} {w : World} {K : PySem.W.Frag} {mg : Str → Option Value} {base : Heap}
theorem ok_is_integer {f : Addr} {fd : FuncData} (F : Fun K "is_integer" "is_integer" s_is_integer f fd) (T : Txt mg) : GFn P w K mg base CX0 1 f fd ["thing"] (spIsWhole K) := by
  refine gfun_ok F sc_is_integer (fun vs H Q E h => ?_) (fun cdv A outer s H vs Q E hgu hr h => ?_)
  · obtain ⟨x, d, rfl, _⟩ := h
    rfl
  · obtain ⟨x, d, rfl, hd, q⟩ := h
    have nd := sc_is_integer.nd
    refine ⟨_, (pss_one (ps_ret (pe_and (pe_callB (k_isi (K := K)) (by rfl) T.isinstance (by decide +kernel) (pa_cons (pv 0) (pa_cons (pe_bltn (v := .ty "int") (by rfl) T.int (by decide +kernel) rfl) pa_nil))) (pe_one (pe_not (pe_callB (k_isi (K := K)) (by rfl) T.isinstance (by decide +kernel) (pa_cons (pv 0) (pa_cons (pe_bltn (v := .ty "bool") (by rfl) T.bool (by decide +kernel) rfl) pa_nil)))))))), ?_⟩
    refine ⟨_, rfl, _, _, _, _, _, rfl, .ty "int", dq_ty hd, isi_int hd, _, rfl, ?_⟩
    by_cases e : isIntLike d = true
    · refine ifT e ⟨_, rfl, _, _, _, _, _, rfl, .ty "bool", dq_ty hd, isi_bool hd, _, rfl, ?_⟩
      have z : (!isBool d) = isInt d := by cases d <;> simp [isIntLike, isBool, isInt] at e ⊢
      show Q (.bl (!isBool d)) H
      rw [z]
      exact q
    · refine ifF (by simpa using e) ?_
      have z : isInt d = false := by cases d <;> simp [isIntLike, isInt] at e ⊢
      rw [z] at q
      exact q
/-- whether a value is a tuple of two -/
def isTwo : PyData → Bool
  | .tuple ds => ds.length == 2
  | _ => false
def spIsTwo (K : PySem.W.Frag) : Sp := fun vs H Q _ => ∃ (x : V) (d : PyData), vs = [x, .int 2] ∧ Dq K H x d ∧ Q (.bl (isTwo d)) H
theorem ok_is_tuple_of {f : Addr} {fd : FuncData} (F : Fun K "is_tuple_of" "is_tuple_of" s_is_tuple_of f fd) (T : Txt mg) : GFn P w K mg base CX0 1 f fd ["thing", "many"] (spIsTwo K) := by
  refine gfun_ok F sc_is_tuple_of (fun vs H Q E h => ?_) (fun cdv A outer s H vs Q E hgu hr h => ?_)
  · obtain ⟨x, d, rfl, _⟩ := h
    rfl
  · obtain ⟨x, d, rfl, hd, q⟩ := h
    have nd := sc_is_tuple_of.nd
    refine ⟨_, (pss_one (ps_ret (pe_and (pe_callB (k_isi (K := K)) (by rfl) T.isinstance (by decide +kernel) (pa_cons (pv 0) (pa_cons (pe_bltn (v := .ty "tuple") (by rfl) T.tuple (by decide +kernel) rfl) pa_nil))) (pe_one (pe_cmpR op_eq (pe_callB (k_len (K := K)) (by rfl) T.len (by decide +kernel) (pa_cons (pv 0) pa_nil)) (pv 1) (nomark _)))))), ?_⟩
    refine ⟨_, rfl, _, _, _, _, _, rfl, .ty "tuple", dq_ty hd, isi_tuple hd, _, rfl, ?_⟩
    by_cases e : isTup d = true
    · obtain ⟨ds, rfl⟩ : ∃ ds, d = .tuple ds := by cases d <;> simp [isTup] at e ⊢
      obtain ⟨a, xs, rfl, hS, hA⟩ := dq_tuple hd
      have lx := dpA_len hA
      refine ifT e ⟨_, rfl, a, _, rfl, .inr hS, _, rfl, rfl, ?_⟩
      have z : decide (V.int ((xs.length : Nat) : Int) = V.int 2) = isTwo (.tuple ds) := by
        rw [dec_int]
        show _ = (ds.length == 2)
        rw [← lx, Bool.eq_iff_iff, beq_iff_eq, beq_iff_eq]
        omega
      rw [z]
      exact q
    · refine ifF (by simpa using e) ?_
      have z : isTwo d = false := by cases d <;> simp [isTup, isTwo] at e ⊢
      rw [z] at q
      exact q
theorem ok_is_fraction {f f1 f2 : Addr} {fd fd1 fd2 : FuncData} (F : Fun K "is_fraction" "is_fraction" s_is_fraction f fd) (F_is_integer : Fun K "is_integer" "is_integer" s_is_integer f1 fd1) (m_is_integer : mg "is_integer" = some (.ref f1)) (b_is_integer : Binds K fd1 ["thing"] [])
    (F_is_tuple_of : Fun K "is_tuple_of" "is_tuple_of" s_is_tuple_of f2 fd2) (m_is_tuple_of : mg "is_tuple_of" = some (.ref f2)) (b_is_tuple_of : Binds K fd2 ["thing", "many"] []) (T : Txt mg) : GFn P w K mg base CX0 2 f fd ["thing"] (spIsFrac K) := by
  have G_is_integer : GFn P w K mg base CX0 1 f1 fd1 ["thing"] (spIsWhole K) := ok_is_integer F_is_integer T
  have G_is_tuple_of : GFn P w K mg base CX0 1 f2 fd2 ["thing", "many"] (spIsTwo K) := ok_is_tuple_of F_is_tuple_of T
  refine gfun_ok F sc_is_fraction (fun vs H Q E h => ?_) (fun cdv A outer s H vs Q E hgu hr h => ?_)
  · obtain ⟨x, d, rfl, _⟩ := h
    rfl
  · obtain ⟨x, d, rfl, hd, ok, few, ft, q⟩ := h
    have nd := sc_is_fraction.nd
    have q := q H (Same.refl H)
    have no : isFracD d = false → Q (.bl false) H := fun h => by
      rw [h] at q
      exact q
    refine ⟨_, (pss_cons (ps_if (PW.pt (pw_or (pt_not (pt_val (pe_g G_is_tuple_of hgu (hr.mono (by decide)) (by rfl) m_is_tuple_of F_is_tuple_of.kp b_is_tuple_of .nil pass0 (pa_cons (pv 0) (pa_cons pe_int pa_nil))))) (pw_or (pt_not (pt_val (pe_g G_is_integer hgu (hr.mono (by decide)) (by rfl) m_is_integer F_is_integer.kp b_is_integer .nil pass0 (pa_cons (pe_ix (k_ixT (K := K)) (pv 0) pe_int (fun _ _ => rfl)) pa_nil)))) (pw_or1 (pt_not (pt_val (pe_g G_is_integer hgu (hr.mono (by decide)) (by rfl) m_is_integer F_is_integer.kp b_is_integer .nil pass0 (pa_cons (pe_ix (k_ixT (K := K)) (pv 0) pe_int (fun _ _ => rfl)) pa_nil)))))))) (pss_one (ps_ret pe_bl)) pss_nil)
      (pss_one (ps_ret (pe_and (pe_cmpR op_ge (pe_ix (k_ixT (K := K)) (pv 0) pe_int (fun _ _ => rfl)) pe_int (nomark _)) (pe_one (pe_cmpR op_eq (pe_callBfun cr_gcd (by rfl) T.gcd (pa_cons (pe_ix (k_ixT (K := K)) (pv 0) pe_int (fun _ _ => rfl)) (pa_cons (pe_ix (k_ixT (K := K)) (pv 0) pe_int (fun _ _ => rfl)) pa_nil))) pe_int (nomark _))))))), ?_⟩
    refine ⟨_, rfl, _, d, rfl, hd, ?_⟩
    cases e : isTwo d with
    | false =>
      refine ⟨_, rfl, ifT (by rfl) (ifT (by rfl) (no ?_))⟩
      cases h : isFracD d with
      | false => rfl
      | true =>
        obtain ⟨a, b, rfl⟩ := isFrac_shape h
        cases e
    | true =>
      obtain ⟨ds, rfl⟩ : ∃ ds, d = .tuple ds := by cases d <;> simp [isTwo] at e ⊢
      obtain ⟨a, u, v, d1, d2, rfl, rfl, hS, hu, hv⟩ := dq_two hd (by simpa [isTwo] using e)
      refine ⟨_, rfl, ifF (by rfl) ⟨_, rfl, a, _, 0, _, rfl, rfl, hS, atI_nat (j := 0) rfl, _, d1, rfl, hu, ?_⟩⟩
      cases e1 : isInt d1 with
      | false =>
        refine ⟨_, rfl, ifT (by rfl) (ifT (by rfl) (no ?_))⟩
        cases h : isFracD (.tuple [d1, d2]) with
        | false => rfl
        | true =>
          obtain ⟨z1, z2, e2⟩ := isFrac_shape h
          cases e2
          cases e1
      | true =>
        refine ⟨_, rfl, ifF (by rfl) ⟨_, rfl, a, _, 1, _, rfl, rfl, hS, atI_nat (j := 1) rfl, _, d2, rfl, hv, ?_⟩⟩
        cases e2 : isInt d2 with
        | false =>
          refine ⟨_, rfl, ifT (by rfl) (no ?_)⟩
          cases h : isFracD (.tuple [d1, d2]) with
          | false => rfl
          | true =>
            obtain ⟨z1, z2, e3⟩ := isFrac_shape h
            cases e3
            cases e2
        | true =>
          obtain ⟨n1, rfl⟩ : ∃ n, d1 = .int n := by cases d1 <;> simp [isInt] at e1 ⊢
          obtain ⟨n2, rfl⟩ : ∃ n, d2 = .int n := by cases d2 <;> simp [isInt] at e2 ⊢
          obtain rfl : u = .int n1 := by
            rcases hu with h | ⟨h, _⟩
            · cases h; rfl
            · cases h
          obtain rfl : v = .int n2 := by
            rcases hv with h | ⟨h, _⟩
            · cases h; rfl
            · cases h
          refine ⟨_, rfl, ifF (by rfl) ⟨_, rfl, a, _, 1, _, rfl, rfl, hS, atI_nat (j := 1) rfl, _, _, rfl, rfl, ?_⟩⟩
          have q : Q (.bl (decide (1 ≤ n2) && (Int.gcd n1 n2 == 1))) H := q
          refine ⟨_, rfl, ?_⟩
          cases h0 : decide (1 ≤ n2) with
          | false =>
            refine ifF (by rfl) ?_
            rw [h0, Bool.false_and] at q
            exact q
          | true =>
            rw [h0, Bool.true_and] at q
            refine ifT (by rfl) ⟨_, rfl, a, _, 0, _, rfl, rfl, hS, atI_nat (j := 0) rfl, _, rfl, a, _, 1, _, rfl, rfl, hS, atI_nat (j := 1) rfl, n1, n2, rfl, rfl, ?_⟩
            have z : decide (V.int ((Int.gcd n1 n2 : Nat) : Int) = V.int 1) = (Int.gcd n1 n2 == 1) := by
              rw [dec_int, Bool.eq_iff_iff, beq_iff_eq, beq_iff_eq]
              omega
            have q : Q (.bl (decide (V.int ((Int.gcd n1 n2 : Nat) : Int) = V.int 1))) H := by rw [z]; exact q
            exact q
/-- divided by the greatest common divisor, with the sign of what is below -/
theorem fdiv_sgn {x b : Int} {g : Nat} (hg : 0 < g) : x.fdiv (sgn b * g) = sgn b * x / g := by
  unfold sgn
  split
  · rw [Int.one_mul, Int.one_mul]
    exact fdiv_pos_eq (by omega)
  · rw [Int.neg_one_mul, Int.neg_one_mul]
    exact fdiv_neg_eq (by omega)
theorem sgn_neg {b : Int} (g : Int) (h : b < 0) : sgn b * g = -g := by
  unfold sgn
  rw [if_neg (by omega), Int.neg_one_mul]
theorem sgn_nn {b : Int} (g : Int) (h : ¬ b < 0) (nz : b ≠ 0) : sgn b * g = g := by
  unfold sgn
  rw [if_pos (by omega), Int.one_mul]
theorem sgn_abs (b : Int) (g : Nat) : (sgn b * g).natAbs = g := by
  unfold sgn
  split <;> omega
theorem gcd_fits {a b : Int} (hb : b ≠ 0) (fb : Fits b) : Int.gcd a b < 2 ^ 2000 := Nat.lt_of_le_of_lt (Nat.le_of_dvd (by omega) (by exact Nat.gcd_dvd_right _ _)) fb
theorem ok_fraction {f : Addr} {fd : FuncData} (F : Fun K "fraction" "fraction" s_fraction f fd) (T : Txt mg) : GFn P w K mg base CX0 1 f fd ["top", "bottom"] (spRatio K) := by
  refine gfun_ok F sc_fraction (fun vs H Q E h => ?_) (fun cdv A outer s H vs Q E hgu hr h => ?_)
  · obtain ⟨a, b, rfl, _⟩ := h
    rfl
  · obtain ⟨a, b, rfl, hb, fa, fb, q⟩ := h
    have nd := sc_fraction.nd
    refine ⟨_, (pss_cons (ps_set (i := 2) nd rfl (Or.inl rfl) (pe_callBfun cr_gcd (by rfl) T.gcd (pa_cons (pv 0) (pa_cons (pv 1) pa_nil))))
      (C8.pss_cut (ps_if (pt_cmpR op_lt (pv 1) pe_int (nomark _)) (pss_one (ps_set (i := 2) nd rfl (Or.inl rfl) (pe_un un_neg (pv 2)))) pss_nil)
      (pss_one (ps_ret (pe_tup (pa_cons (pe_op op_fdivN (pv 0) (pv 2)) (pa_cons (pe_op op_fdivN (pv 1) (pv 2)) pa_nil))))))), ?_⟩
    have gp : 0 < Int.gcd a b := gcd_pos hb
    have gf := gcd_fits (a := a) hb fb
    refine ⟨_, rfl, _, rfl, a, b, rfl, ?_⟩
    refine ⟨fun σ' H' => σ' = [some (.int a), some (.int b), some (.int (sgn b * (Int.gcd a b : Nat)))] ∧ H' = H, ?_, ?_⟩
    · refine ⟨_, rfl, _, _, rfl, rfl, _, rfl, ite2 (fun h => ?_) (fun h => ?_)⟩
      · refine ⟨_, rfl, _, rfl, ?_, rfl⟩
        rw [sgn_neg _ (of_decide_eq_true h)]
        rfl
      · refine ⟨?_, rfl⟩
        rw [sgn_nn _ (fun z => h (decide_eq_true z)) hb]
        rfl
    · rintro σ' H' ⟨rfl, rfl⟩
      have cd : ∀ x, CDivN x (sgn b * (Int.gcd a b : Nat)) := fun x => wide_divN (b := 2000) (by have := sgn_abs b (Int.gcd a b); omega) (by rw [sgn_abs]; exact gf) (by decide) (by decide)
      refine ⟨_, rfl, _, rfl, _, _, rfl, rfl, cd _, _, rfl, _, rfl, _, _, rfl, rfl, cd _, by show 2 ≤ sizeLine; decide, fun p np => ?_⟩
      have e1 : a.fdiv (sgn b * (Int.gcd a b : Nat)) = ratN a b := fdiv_sgn gp
      have e2 : b.fdiv (sgn b * (Int.gcd a b : Nat)) = ratD a b := fdiv_sgn gp
      show Q (V.ref p) (upd H' p (HO.tup [.int (a.fdiv (sgn b * (Int.gcd a b : Nat))), .int (b.fdiv (sgn b * (Int.gcd a b : Nat)))]))
      rw [e1, e2]
      exact q p _ (same_new np) (.inl (.inl upd_same))
end
end SG

namespace SG
open PySem PySem.Spec PyProof.Rows L2 TL
open SX (S S_tl S_len S_cat)
section
variable {P : Program} {w : World} {K : PySem.W.Frag} {mg : Str → Option Value} {base : Heap}
theorem mulS {a b : Int} (ha : Small a) (hb : Small b) : CMulW a b := wide_mul ha hb (by decide) (by decide) (by decide)
theorem fitsS {a b : Int} (ha : Small a) (hb : Small b) : (a * b).natAbs < 2 ^ 1800 := wide_lt ha hb
theorem fitsS1 {a b : Int} (ha : Small a) (hb : Small b) : Fits (a * b) := Nat.lt_trans (fitsS ha hb) (Nat.pow_lt_pow_right (by decide) (by decide))
theorem fits_two {x y : Int} (hx : x.natAbs < 2 ^ 1800) (hy : y.natAbs < 2 ^ 1800) : Fits (x + y) ∧ Fits (x - y) := by
  have e : 2 ^ 1800 + 2 ^ 1800 ≤ 2 ^ 2000 := by decide +kernel
  unfold Fits
  generalize 2 ^ 1800 = M at hx hy e
  generalize 2 ^ 2000 = N at e ⊢
  omega
section
variable {σ : L2.St} {H : Hp}
theorem Ev.mulS {ta tb : TE} {m n : Int} (ha : Ev σ H ta m) (hb : Ev σ H tb n) (nm : Small m) (nn : Small n) : Ev σ H (tOp (rI CMulW fun i j => V.int (i * j)) ta tb) (m * n) := fun R q => ha _ (hb _ ⟨_, _, rfl, rfl, SG.mulS nm nn, q⟩)
end
theorem ok_plus {f f1 : Addr} {fd fd1 : FuncData} (F : Fun K "plus" "plus" s_plus f fd) (F_fraction : Fun K "fraction" "fraction" s_fraction f1 fd1) (m_fraction : mg "fraction" = some (.ref f1)) (b_fraction : Binds K fd1 ["top", "bottom"] []) (T : Txt mg) : GFn P w K mg base CX0 2 f fd ["one", "other"] (spPlus K) := by
  have G_fraction : GFn P w K mg base CX0 1 f1 fd1 ["top", "bottom"] (spRatio K) := ok_fraction F_fraction T
  refine gfun_ok F sc_plus (fun vs H Q E h => ?_) (fun cdv A outer s H vs Q E hgu hr h => ?_)
  · obtain ⟨p, q, a, b, u, v, rfl, _⟩ := h
    rfl
  · obtain ⟨p, q, a, b, u, v, rfl, ⟨hp, _, sa, sb⟩, ⟨hq, _, su, sv⟩, nz, k⟩ := h
    have nd := sc_plus.nd
    refine ⟨_, (pss_one (ps_ret (pe_g G_fraction hgu (hr.mono (by decide)) (by rfl) m_fraction F_fraction.kp b_fraction .nil pass0 (pa_cons (pe_op op_add (pe_op op_mulW (pe_ix (k_ixT (K := K)) (pv 0) pe_int (fun _ _ => rfl)) (pe_ix (k_ixT (K := K)) (pv 1) pe_int (fun _ _ => rfl))) (pe_op op_mulW (pe_ix (k_ixT (K := K)) (pv 1) pe_int (fun _ _ => rfl)) (pe_ix (k_ixT (K := K)) (pv 0) pe_int (fun _ _ => rfl)))) (pa_cons (pe_op op_mulW (pe_ix (k_ixT (K := K)) (pv 0) pe_int (fun _ _ => rfl)) (pe_ix (k_ixT (K := K)) (pv 1) pe_int (fun _ _ => rfl))) pa_nil))))), ?_⟩
    exact ratio_tell (.add (.mulS (.ix0 rfl hp) (.ix1 rfl hq) sa sv) (.mulS (.ix0 rfl hq) (.ix1 rfl hp) su sb)) (.mulS (.ix1 rfl hp) (.ix1 rfl hq) sb sv) nz (fits_two (fitsS sa sv) (fitsS su sb)).1 (fitsS1 sb sv) fun r H2 s2 h2 => k r H2 s2 h2
theorem ok_minus {f f1 : Addr} {fd fd1 : FuncData} (F : Fun K "minus" "minus" s_minus f fd) (F_fraction : Fun K "fraction" "fraction" s_fraction f1 fd1) (m_fraction : mg "fraction" = some (.ref f1)) (b_fraction : Binds K fd1 ["top", "bottom"] []) (T : Txt mg) : GFn P w K mg base CX0 2 f fd ["one", "other"] (spMinus K) := by
  have G_fraction : GFn P w K mg base CX0 1 f1 fd1 ["top", "bottom"] (spRatio K) := ok_fraction F_fraction T
  refine gfun_ok F sc_minus (fun vs H Q E h => ?_) (fun cdv A outer s H vs Q E hgu hr h => ?_)
  · obtain ⟨p, q, a, b, u, v, rfl, _⟩ := h
    rfl
  · obtain ⟨p, q, a, b, u, v, rfl, ⟨hp, _, sa, sb⟩, ⟨hq, _, su, sv⟩, nz, k⟩ := h
    have nd := sc_minus.nd
    refine ⟨_, (pss_one (ps_ret (pe_g G_fraction hgu (hr.mono (by decide)) (by rfl) m_fraction F_fraction.kp b_fraction .nil pass0 (pa_cons (pe_op op_sub (pe_op op_mulW (pe_ix (k_ixT (K := K)) (pv 0) pe_int (fun _ _ => rfl)) (pe_ix (k_ixT (K := K)) (pv 1) pe_int (fun _ _ => rfl))) (pe_op op_mulW (pe_ix (k_ixT (K := K)) (pv 1) pe_int (fun _ _ => rfl)) (pe_ix (k_ixT (K := K)) (pv 0) pe_int (fun _ _ => rfl)))) (pa_cons (pe_op op_mulW (pe_ix (k_ixT (K := K)) (pv 0) pe_int (fun _ _ => rfl)) (pe_ix (k_ixT (K := K)) (pv 1) pe_int (fun _ _ => rfl))) pa_nil))))), ?_⟩
    exact ratio_tell (.sub (.mulS (.ix0 rfl hp) (.ix1 rfl hq) sa sv) (.mulS (.ix0 rfl hq) (.ix1 rfl hp) su sb)) (.mulS (.ix1 rfl hp) (.ix1 rfl hq) sb sv) nz (fits_two (fitsS sa sv) (fitsS su sb)).2 (fitsS1 sb sv) fun r H2 s2 h2 => k r H2 s2 h2
theorem ok_times {f f1 : Addr} {fd fd1 : FuncData} (F : Fun K "times" "times" s_times f fd) (F_fraction : Fun K "fraction" "fraction" s_fraction f1 fd1) (m_fraction : mg "fraction" = some (.ref f1)) (b_fraction : Binds K fd1 ["top", "bottom"] []) (T : Txt mg) : GFn P w K mg base CX0 2 f fd ["one", "other"] (spTimes K) := by
  have G_fraction : GFn P w K mg base CX0 1 f1 fd1 ["top", "bottom"] (spRatio K) := ok_fraction F_fraction T
  refine gfun_ok F sc_times (fun vs H Q E h => ?_) (fun cdv A outer s H vs Q E hgu hr h => ?_)
  · obtain ⟨p, q, a, b, u, v, rfl, _⟩ := h
    rfl
  · obtain ⟨p, q, a, b, u, v, rfl, ⟨hp, _, sa, sb⟩, ⟨hq, _, su, sv⟩, nz, k⟩ := h
    have nd := sc_times.nd
    refine ⟨_, (pss_one (ps_ret (pe_g G_fraction hgu (hr.mono (by decide)) (by rfl) m_fraction F_fraction.kp b_fraction .nil pass0 (pa_cons (pe_op op_mulW (pe_ix (k_ixT (K := K)) (pv 0) pe_int (fun _ _ => rfl)) (pe_ix (k_ixT (K := K)) (pv 1) pe_int (fun _ _ => rfl))) (pa_cons (pe_op op_mulW (pe_ix (k_ixT (K := K)) (pv 0) pe_int (fun _ _ => rfl)) (pe_ix (k_ixT (K := K)) (pv 1) pe_int (fun _ _ => rfl))) pa_nil))))), ?_⟩
    exact ratio_tell (.mulS (.ix0 rfl hp) (.ix0 rfl hq) sa su) (.mulS (.ix1 rfl hp) (.ix1 rfl hq) sb sv) nz (fitsS1 sa su) (fitsS1 sb sv) fun r H2 s2 h2 => k r H2 s2 h2
theorem ok_over {f f1 : Addr} {fd fd1 : FuncData} (F : Fun K "over" "over" s_over f fd) (F_fraction : Fun K "fraction" "fraction" s_fraction f1 fd1) (m_fraction : mg "fraction" = some (.ref f1)) (b_fraction : Binds K fd1 ["top", "bottom"] []) (T : Txt mg) : GFn P w K mg base CX0 2 f fd ["one", "other"] (spOver K) := by
  have G_fraction : GFn P w K mg base CX0 1 f1 fd1 ["top", "bottom"] (spRatio K) := ok_fraction F_fraction T
  refine gfun_ok F sc_over (fun vs H Q E h => ?_) (fun cdv A outer s H vs Q E hgu hr h => ?_)
  · obtain ⟨p, q, a, b, u, v, rfl, _⟩ := h
    rfl
  · obtain ⟨p, q, a, b, u, v, rfl, ⟨hp, _, sa, sb⟩, ⟨hq, _, su, sv⟩, nz, k⟩ := h
    have nd := sc_over.nd
    refine ⟨_, (pss_one (ps_ret (pe_g G_fraction hgu (hr.mono (by decide)) (by rfl) m_fraction F_fraction.kp b_fraction .nil pass0 (pa_cons (pe_op op_mulW (pe_ix (k_ixT (K := K)) (pv 0) pe_int (fun _ _ => rfl)) (pe_ix (k_ixT (K := K)) (pv 1) pe_int (fun _ _ => rfl))) (pa_cons (pe_op op_mulW (pe_ix (k_ixT (K := K)) (pv 0) pe_int (fun _ _ => rfl)) (pe_ix (k_ixT (K := K)) (pv 1) pe_int (fun _ _ => rfl))) pa_nil))))), ?_⟩
    exact ratio_tell (.mulS (.ix0 rfl hp) (.ix1 rfl hq) sa sv) (.mulS (.ix1 rfl hp) (.ix0 rfl hq) sb su) nz (fitsS1 sa sv) (fitsS1 sb su) fun r H2 s2 h2 => k r H2 s2 h2
theorem ok_is_less {f : Addr} {fd : FuncData} (F : Fun K "is_less" "is_less" s_is_less f fd) (T : Txt mg) : GFn P w K mg base CX0 1 f fd ["one", "other"] (spLess K) := by
  refine gfun_ok F sc_is_less (fun vs H Q E h => ?_) (fun cdv A outer s H vs Q E hgu hr h => ?_)
  · obtain ⟨p, q, a, b, u, v, rfl, _⟩ := h
    rfl
  · obtain ⟨p, q, a, b, u, v, rfl, ⟨hp, _, sa, sb⟩, ⟨hq, _, su, sv⟩, k⟩ := h
    have nd := sc_is_less.nd
    refine ⟨_, (pss_one (ps_ret (pe_cmpR op_lt (pe_op op_mulW (pe_ix (k_ixT (K := K)) (pv 0) pe_int (fun _ _ => rfl)) (pe_ix (k_ixT (K := K)) (pv 1) pe_int (fun _ _ => rfl))) (pe_op op_mulW (pe_ix (k_ixT (K := K)) (pv 1) pe_int (fun _ _ => rfl)) (pe_ix (k_ixT (K := K)) (pv 0) pe_int (fun _ _ => rfl))) (nomark _)))), ?_⟩
    exact Ev.mulS (.ix0 rfl hp) (.ix1 rfl hq) sa sv _ (Ev.mulS (.ix0 rfl hq) (.ix1 rfl hp) su sb _ ⟨_, _, rfl, rfl, k H (Same.refl H)⟩)
/-- the text of an integer -/
def numS (n : Int) : Str := Str.ofString (toString n)
theorem join_one (s : Str) : Txt.join "" [s] = s := by
  cases s
  rfl
def spFigs : Sp := fun vs H Q _ => ∃ n : Int, vs = [.int n] ∧ Near n ∧ ∀ H2, Same H H2 → Q (.str (numS n)) H2
theorem ok_figures_of {f : Addr} {fd : FuncData} (F : Fun K "figures_of" "figures_of" s_figures_of f fd) (T : Txt mg) : GFn P w K mg base CX0 1 f fd ["number"] spFigs := by
  refine gfun_ok F sc_figures_of (fun vs H Q E h => ?_) (fun cdv A outer s H vs Q E hgu hr h => ?_)
  · obtain ⟨n, rfl, _⟩ := h
    rfl
  · obtain ⟨n, rfl, hn, q⟩ := h
    have nd := sc_figures_of.nd
    refine ⟨_, (pss_cons (ps_set (i := 1) nd rfl (Or.inl rfl) (pe_lst pa_nil))
      (pss_cons (ps_while PassesOwn.never (pt_cmpR op_ge (pv 0) (pe_glob (v := .int 10000000000000000000000000000000000000000000000000000000000000000) (by rfl) T.LIMIT.choose_spec ⟨_, rfl⟩) (nomark _)) (pss_cons (ps_asg (pe_callB call_divmodW (by rfl) T.divmod (by decide +kernel) (pa_cons (pv 0) (pa_cons (pe_glob (v := .int 10000000000000000000000000000000000000000000000000000000000000000) (by rfl) T.LIMIT.choose_spec ⟨_, rfl⟩) pa_nil))) (k_tg (K := K) (n := 2) rfl (pgs_cons (pg_name (i := 0) nd rfl (Or.inl rfl)) (pgs_cons (pg_name (i := 2) nd rfl (Or.inl rfl)) pgs_nil))))
      (pss_one (ps_expr (pe_bm PySem.F.plainAttrs_list PySem.F.slot_list_append PySem.F.type_list_append mt_append (pv 1) (pa_cons (pe_bm PySem.F.plainAttrs_str PySem.F.slot_str_zfill PySem.F.type_str_zfill mt_zfill (pe_callTy call_str_int (by rfl) T.str (by decide +kernel) (pa_cons (pv 2) pa_nil)) (pa_cons pe_int pa_nil)) pa_nil))))))
      (pss_one (ps_ret (k_join (K := K) pe_str (pe_op op_cat (pe_lst (pa_cons (pe_callTy call_str_int (by rfl) T.str (by decide +kernel) (pa_cons (pv 0) pa_nil)) pa_nil)) (k_rev (K := K) (pv 1)))))))), ?_⟩
    refine ⟨Nat.zero_le _, fun p np => ?_⟩
    have s1 : Same H (upd H p (.lst [])) := same_new np
    have hp : upd H p (.lst []) p = some (.lst []) := upd_same
    generalize upd H p (.lst []) = H1 at s1 hp ⊢
    refine ⟨fun k σ HI => σ = [some (.int n), some (.ref p), none] ∧ HI = H1 ∧ k = 0, ⟨0, rfl, rfl, rfl⟩, ?_⟩
    rintro k σ HI ⟨rfl, rfl, rfl⟩
    refine ⟨_, rfl, _, _, rfl, rfl, _, rfl, ite2 (fun h => ?_) (fun h => ?_)⟩
    · have h := of_decide_eq_true h
      have b : (2 : Nat) ^ 200 ≤ 10 ^ 64 := by decide +kernel
      unfold Near at hn
      exact absurd h (by omega)
    · refine ⟨⟨_, rfl⟩, _, rfl, n, rfl, near_log hn, by show 1 ≤ sizeLine; decide, fun r nr => ?_⟩
      have s2 : Same H (upd HI r (.lst [.str (numS n)])) := s1.trans (same_new nr)
      have hp2 : upd HI r (.lst [.str (numS n)]) p = some (.lst []) := by rw [upd_ne (ne_of_none hp nr)]; exact hp
      have hr2 : upd HI r (.lst [.str (numS n)]) r = some (.lst [.str (numS n)]) := upd_same
      refine ⟨_, rfl, p, [], rfl, SqL.of hp2, fun r2 nr2 => ?_⟩
      have s3 : Same H (upd (upd HI r (.lst [.str (numS n)])) r2 (.lst [])) := s2.trans (same_new nr2)
      have hr3 : upd (upd HI r (.lst [.str (numS n)])) r2 (.lst []) r = some (.lst [.str (numS n)]) := by rw [upd_ne (ne_of_none hr2 nr2)]; exact hr2
      have h3 : upd (upd HI r (.lst [.str (numS n)])) r2 (.lst []) r2 = some (.lst []) := upd_same
      refine ⟨r, r2, _, _, rfl, rfl, hr3, h3, by show 1 ≤ sizeLine; decide, fun r3 nr3 => ?_⟩
      refine ⟨"", r3, [numS n], rfl, rfl, .inl (SqL.of upd_same), ?_, ?_⟩
      · have l := near_len hn
        show (numS n).length + 0 + 1 * 0 ≤ 16777216
        unfold numS
        omega
      · rw [join_one]
        exact q _ (s3.trans (same_new nr3))
theorem str_nil (s : Str) : ("" : Str) ++ s = s := by
  have e := tl_append "" s
  cases s
  exact congrArg Str.mk (Array.ext' e)
theorem str_nil2 (s : Str) : s ++ ("" : Str) = s := by
  have e := tl_append s ""
  rw [show tl ("" : Str) = [] from rfl, List.append_nil] at e
  cases s
  exact congrArg Str.mk (Array.ext' e)
theorem str_assoc (a b c : Str) : (a ++ b) ++ c = a ++ (b ++ c) := by
  have e : tl ((a ++ b) ++ c) = tl (a ++ (b ++ c)) := by rw [tl_append, tl_append, tl_append, tl_append, List.append_assoc]
  revert e
  generalize (a ++ b) ++ c = x
  generalize a ++ (b ++ c) = y
  intro e
  cases x
  cases y
  exact congrArg Str.mk (Array.ext' e)
theorem ofString_cat (a b : String) : Str.ofString (a ++ b) = Str.ofString a ++ Str.ofString b := by
  have e : tl (Str.ofString (a ++ b)) = tl (Str.ofString a ++ Str.ofString b) := by
    rw [tl_append]
    show (Str.ofString (a ++ b)).cps.toList = (Str.ofString a).cps.toList ++ (Str.ofString b).cps.toList
    rw [signs_ofString, signs_ofString, signs_ofString, String.toList_append, List.map_append]
  revert e
  generalize Str.ofString (a ++ b) = x
  generalize Str.ofString a ++ Str.ofString b = y
  intro e
  cases x
  cases y
  exact congrArg Str.mk (Array.ext' e)
theorem num_abs (n : Int) : (if n < 0 then ("-" : Str) else "") ++ numS (if n < 0 then -n else n) = numS n := by
  unfold numS
  split
  · rename_i h
    obtain ⟨m, rfl⟩ : ∃ m : Nat, n = Int.negSucc m := by
      cases n with
      | ofNat k => exact absurd h (Int.not_lt.mpr (Int.natCast_nonneg k))
      | negSucc k => exact ⟨k, rfl⟩
    have e : toString (Int.negSucc m) = "-" ++ toString (-(Int.negSucc m)) := rfl
    rw [e]
    exact (ofString_cat ..).symm
  · exact str_nil _
theorem near_abs {a : Int} (h : Near a) : Near (if a < 0 then -a else a) := by
  unfold Near at h ⊢
  split
  · rw [Int.natAbs_neg]
    exact h
  · exact h
def catS : R2 := fun x y H Q => ∃ i j, x = V.str i ∧ y = V.str j ∧ i.length + j.length ≤ sizeLine ∧ Q (V.str (i ++ j)) H
theorem minus_tell {σ : L2.St} {H : Hp} {Q : VK} {i : Nat} {b : Int} (e : σ[i]? = some (some (.int b))) (q : Q (.str (if b < 0 then "-" else "")) H) :
    tIf (tTest (tOp (rI0 fun i j => V.bl (decide (i < j))) (tVar i) (tC (V.int 0)))) (tC (V.str (Str.ofString "-"))) (tC (V.str (Str.ofString ""))) σ H Q := by
  refine ⟨_, e, _, _, rfl, rfl, _, rfl, ite2 (fun h => ?_) (fun h => ?_)⟩
  · rw [if_pos (of_decide_eq_true h)] at q
    exact q
  · rw [if_neg (fun z => h (decide_eq_true z))] at q
    exact q
theorem below_tell {σ : L2.St} {H : Hp} {Q : VK} {i : Nat} {b : Int} (e : σ[i]? = some (some (.int b))) (nb : Near b) (q : ∀ H2, Same H H2 → Q (.str (if b = 1 then "" else "/" ++ numS b)) H2) :
    tIf (tTest (tOp rEq (tVar i) (tC (V.int 1)))) (tC (V.str (Str.ofString ""))) (tOp catS (tC (V.str (Str.ofString "/"))) (tCall spFigs [] E0 (tCons (tVar i) tNil))) σ H Q := by
  refine ⟨_, e, rfl, _, rfl, ite2 (fun h => ?_) (fun h => ?_)⟩
  · rw [dec_int, beq_iff_eq] at h
    have q := q H (Same.refl H)
    rw [if_pos h] at q
    exact q
  · rw [dec_int, beq_iff_eq] at h
    refine ⟨_, e, b, rfl, nb, fun H2 s2 => ⟨_, _, rfl, rfl, ?_, ?_⟩⟩
    · have l := near_len nb
      have : (Str.ofString "/").length = 1 := by decide +kernel
      refine Nat.le_of_lt (small1000 ?_)
      unfold numS
      omega
    · have q := q H2 s2
      rw [if_neg h] at q
      exact q
theorem sign_len (b : Int) : (if b < 0 then ("-" : Str) else "").length ≤ 1 := by
  split <;> decide +kernel
theorem below_len {b : Int} (nb : Near b) : (if b = 1 then ("" : Str) else "/" ++ numS b).length ≤ 63 := by
  split
  · decide +kernel
  · have l := near_len nb
    have e0 := congrArg List.length (tl_append "/" (numS b))
    rw [List.length_append] at e0
    have e1 : ("/" : Str).length = 1 := by decide +kernel
    have e2 : ("/" ++ numS b).length = ("/" : Str).length + (numS b).length := by simpa [Str.length] using e0
    unfold numS at e2 ⊢
    omega
theorem num_len {a : Int} (h : Near a) : (numS a).length ≤ 62 := near_len h
theorem cat_len (a b : Str) : (a ++ b).length = a.length + b.length := by
  have e0 := congrArg List.length (tl_append a b)
  rw [List.length_append] at e0
  simpa [Str.length] using e0
theorem page_is (a b : Int) : numS a ++ (if b = 1 then ("" : Str) else "/" ++ numS b) = pageS a b := by
  unfold pageS
  split
  · exact str_nil2 _
  · exact (str_assoc ..).symm
theorem ok_fraction_text {f f1 : Addr} {fd fd1 : FuncData} (F : Fun K "fraction_text" "fraction_text" s_fraction_text f fd) (F_figures_of : Fun K "figures_of" "figures_of" s_figures_of f1 fd1) (m_figures_of : mg "figures_of" = some (.ref f1)) (b_figures_of : Binds K fd1 ["number"] []) (T : Txt mg) : GFn P w K mg base CX0 2 f fd ["one"] (spPage K) := by
  have G_figures_of : GFn P w K mg base CX0 1 f1 fd1 ["number"] spFigs := ok_figures_of F_figures_of T
  refine gfun_ok F sc_fraction_text (fun vs H Q E h => ?_) (fun cdv A outer s H vs Q E hgu hr h => ?_)
  · obtain ⟨p, a, b, rfl, _⟩ := h
    rfl
  · obtain ⟨p, a, b, rfl, hp, na, nb, q⟩ := h
    have nd := sc_fraction_text.nd
    refine ⟨_, (pss_cons (ps_asg (pv 0) (k_tg (K := K) (n := 2) rfl (pgs_cons (pg_name (i := 1) nd rfl (Or.inl rfl)) (pgs_cons (pg_name (i := 2) nd rfl (Or.inl rfl)) pgs_nil))))
      (pss_cons (ps_set (i := 3) nd rfl (Or.inl rfl) (pe_ifExp (pt_cmpR op_lt (pv 1) pe_int (nomark _)) pe_str pe_str))
      (pss_cons (ps_set (i := 4) nd rfl (Or.inl rfl) (pe_ifExp (pt_cmpR op_eq (pv 2) pe_int (nomark _)) pe_str (pe_op op_add_str pe_str (pe_g G_figures_of hgu (hr.mono (by decide)) (by rfl) m_figures_of F_figures_of.kp b_figures_of .nil pass0 (pa_cons (pv 2) pa_nil)))))
      (pss_one (ps_ret (pe_op op_add_str (pe_op op_add_str (pv 3) (pe_g G_figures_of hgu (hr.mono (by decide)) (by rfl) m_figures_of F_figures_of.kp b_figures_of .nil pass0 (pa_cons (pe_callB call_abs (by rfl) T.abs (by decide +kernel) (pa_cons (pv 1) pa_nil)) pa_nil))) (pv 4))))))), ?_⟩
    refine ⟨_, rfl, p, _, rfl, hp, rfl, ?_⟩
    refine ⟨_, _, rfl, _, _, rfl, rfl, minus_tell rfl (below_tell rfl nb fun H2 s2 => ?_)⟩
    refine ⟨_, rfl, _, rfl, a, rfl, _, rfl, near_abs na, fun H3 s3 => ⟨_, _, rfl, rfl, ?_, _, rfl, _, _, rfl, rfl, ?_, ?_⟩⟩
    · have l1 := sign_len a
      have l2 := num_len (near_abs na)
      exact Nat.le_of_lt (small1000 (by omega))
    · rw [num_abs]
      have l1 := num_len na
      have l2 := below_len nb
      exact Nat.le_of_lt (small1000 (by omega))
    · have z := q H3 (s2.trans s3)
      rw [← page_is] at z
      rw [num_abs]
      exact z
end
end SG

namespace SG
open PySem PySem.Spec PyProof.Rows L2
theorem kwOne_args {α : Type} {us ws : List α} (h : (kwOne us ws).length = 1) : ∃ x, us = [] ∧ ws = [x] := by
  match us, ws, h with
  | [], [x], _ => exact ⟨x, rfl, rfl⟩
  | [], [], h => exact absurd h (by simp [kwOne])
  | [], _ :: _ :: _, h => exact absurd h (by simp [kwOne])
  | _ :: _, _, h => exact absurd h (by simp [kwOne])
theorem kwTurn_args {α : Type} {us ws : List α} (h : (kwTurn us ws).length = 2) : ∃ x y, us = [] ∧ ws = [x, y] := by
  match us, ws, h with
  | [], [x, y], _ => exact ⟨x, y, rfl, rfl⟩
  | [], [], h => exact absurd h (by simp [kwTurn])
  | [], [_], h => exact absurd h (by simp [kwTurn])
  | [], _ :: _ :: _ :: _, h => exact absurd h (by simp [kwTurn])
  | _ :: _, _, h => exact absurd h (by simp [kwTurn])
theorem all_mk {l : PySem.W.OpenLaw} {w : World} {K : PySem.W.Frag} {h : Heap} {mg : Str → Option Value} {fa f_figures_of f_is_integer f_is_tuple_of f_is_fraction f_fraction f_plus f_minus f_times f_over f_is_less f_fraction_text f__law_deck f__law_draw f__law_pick f__law_ratio f__law_whole f__law_is_whole f__law_is_fraction f__law_page f__law_one_right f__law_two_right f_law : Addr} (X : K.In h) (G : h.Ns mainGlobals mg) (hfa : mg "law" = some (.ref fa))
    {od_figures_of an_figures_of od_is_integer an_is_integer od_is_tuple_of an_is_tuple_of od_is_fraction an_is_fraction od_fraction an_fraction od_plus an_plus od_minus an_minus od_times an_times od_over an_over od_is_less an_is_less od_fraction_text an_fraction_text od__law_deck an__law_deck od__law_draw an__law_draw od__law_pick an__law_pick od__law_ratio an__law_ratio od__law_whole an__law_whole od__law_is_whole an__law_is_whole od__law_is_fraction an__law_is_fraction od__law_page an__law_page od__law_one_right an__law_one_right od__law_two_right an__law_two_right od_law an_law : Option Addr} {sl_figures_of sl_is_integer sl_is_tuple_of sl_is_fraction sl_fraction sl_plus sl_minus sl_times sl_over sl_is_less sl_fraction_text sl__law_deck sl__law_draw sl__law_pick sl__law_ratio sl__law_whole sl__law_is_whole sl__law_is_fraction sl__law_page sl__law_one_right sl__law_two_right sl_law : Array (Option Value)} {oc_figures_of kV_figures_of dc_figures_of pm_figures_of cd_figures_of ct_figures_of oc_is_integer kV_is_integer dc_is_integer pm_is_integer cd_is_integer ct_is_integer oc_is_tuple_of kV_is_tuple_of dc_is_tuple_of pm_is_tuple_of cd_is_tuple_of ct_is_tuple_of oc_is_fraction kV_is_fraction dc_is_fraction pm_is_fraction cd_is_fraction ct_is_fraction oc_fraction kV_fraction dc_fraction pm_fraction cd_fraction ct_fraction oc_plus kV_plus dc_plus pm_plus cd_plus ct_plus oc_minus kV_minus dc_minus pm_minus cd_minus ct_minus oc_times kV_times dc_times pm_times cd_times ct_times oc_over kV_over dc_over pm_over cd_over ct_over oc_is_less kV_is_less dc_is_less pm_is_less cd_is_less ct_is_less oc_fraction_text kV_fraction_text dc_fraction_text pm_fraction_text cd_fraction_text ct_fraction_text oc__law_deck kV__law_deck dc__law_deck pm__law_deck cd__law_deck ct__law_deck oc__law_draw kV__law_draw dc__law_draw pm__law_draw cd__law_draw ct__law_draw oc__law_pick kV__law_pick dc__law_pick pm__law_pick cd__law_pick ct__law_pick oc__law_ratio kV__law_ratio dc__law_ratio pm__law_ratio cd__law_ratio ct__law_ratio oc__law_whole kV__law_whole dc__law_whole pm__law_whole cd__law_whole ct__law_whole oc__law_is_whole kV__law_is_whole dc__law_is_whole pm__law_is_whole cd__law_is_whole ct__law_is_whole oc__law_is_fraction kV__law_is_fraction dc__law_is_fraction pm__law_is_fraction cd__law_is_fraction ct__law_is_fraction oc__law_page kV__law_page dc__law_page pm__law_page cd__law_page ct__law_page oc__law_one_right kV__law_one_right dc__law_one_right pm__law_one_right cd__law_one_right ct__law_one_right oc__law_two_right kV__law_two_right dc__law_two_right pm__law_two_right cd__law_two_right ct__law_two_right oc_law kV_law dc_law pm_law cd_law ct_law : Value}
    (a_figures_of : PySem.W.nsIn K mainGlobals "figures_of" = some (some (.ref f_figures_of))) (l_figures_of : K.lookup f_figures_of = some ⟨oc_figures_of, od_figures_of, .func (PySem.W.fnOf "figures_of" "figures_of" (defArgs s_figures_of) (defBody s_figures_of) (defScope s_figures_of) .none kV_figures_of dc_figures_of pm_figures_of an_figures_of cd_figures_of ct_figures_of), sl_figures_of⟩) (c_figures_of : PySem.W.codeIn K cd_figures_of "figures_of" = true) (k_figures_of : PySem.W.keepIn K (.ref f_figures_of) = true)
    (a_is_integer : PySem.W.nsIn K mainGlobals "is_integer" = some (some (.ref f_is_integer))) (l_is_integer : K.lookup f_is_integer = some ⟨oc_is_integer, od_is_integer, .func (PySem.W.fnOf "is_integer" "is_integer" (defArgs s_is_integer) (defBody s_is_integer) (defScope s_is_integer) .none kV_is_integer dc_is_integer pm_is_integer an_is_integer cd_is_integer ct_is_integer), sl_is_integer⟩) (c_is_integer : PySem.W.codeIn K cd_is_integer "is_integer" = true) (k_is_integer : PySem.W.keepIn K (.ref f_is_integer) = true)
    (a_is_tuple_of : PySem.W.nsIn K mainGlobals "is_tuple_of" = some (some (.ref f_is_tuple_of))) (l_is_tuple_of : K.lookup f_is_tuple_of = some ⟨oc_is_tuple_of, od_is_tuple_of, .func (PySem.W.fnOf "is_tuple_of" "is_tuple_of" (defArgs s_is_tuple_of) (defBody s_is_tuple_of) (defScope s_is_tuple_of) .none kV_is_tuple_of dc_is_tuple_of pm_is_tuple_of an_is_tuple_of cd_is_tuple_of ct_is_tuple_of), sl_is_tuple_of⟩) (c_is_tuple_of : PySem.W.codeIn K cd_is_tuple_of "is_tuple_of" = true) (k_is_tuple_of : PySem.W.keepIn K (.ref f_is_tuple_of) = true)
    (a_is_fraction : PySem.W.nsIn K mainGlobals "is_fraction" = some (some (.ref f_is_fraction))) (l_is_fraction : K.lookup f_is_fraction = some ⟨oc_is_fraction, od_is_fraction, .func (PySem.W.fnOf "is_fraction" "is_fraction" (defArgs s_is_fraction) (defBody s_is_fraction) (defScope s_is_fraction) .none kV_is_fraction dc_is_fraction pm_is_fraction an_is_fraction cd_is_fraction ct_is_fraction), sl_is_fraction⟩) (c_is_fraction : PySem.W.codeIn K cd_is_fraction "is_fraction" = true) (k_is_fraction : PySem.W.keepIn K (.ref f_is_fraction) = true)
    (a_fraction : PySem.W.nsIn K mainGlobals "fraction" = some (some (.ref f_fraction))) (l_fraction : K.lookup f_fraction = some ⟨oc_fraction, od_fraction, .func (PySem.W.fnOf "fraction" "fraction" (defArgs s_fraction) (defBody s_fraction) (defScope s_fraction) .none kV_fraction dc_fraction pm_fraction an_fraction cd_fraction ct_fraction), sl_fraction⟩) (c_fraction : PySem.W.codeIn K cd_fraction "fraction" = true) (k_fraction : PySem.W.keepIn K (.ref f_fraction) = true)
    (a_plus : PySem.W.nsIn K mainGlobals "plus" = some (some (.ref f_plus))) (l_plus : K.lookup f_plus = some ⟨oc_plus, od_plus, .func (PySem.W.fnOf "plus" "plus" (defArgs s_plus) (defBody s_plus) (defScope s_plus) .none kV_plus dc_plus pm_plus an_plus cd_plus ct_plus), sl_plus⟩) (c_plus : PySem.W.codeIn K cd_plus "plus" = true) (k_plus : PySem.W.keepIn K (.ref f_plus) = true)
    (a_minus : PySem.W.nsIn K mainGlobals "minus" = some (some (.ref f_minus))) (l_minus : K.lookup f_minus = some ⟨oc_minus, od_minus, .func (PySem.W.fnOf "minus" "minus" (defArgs s_minus) (defBody s_minus) (defScope s_minus) .none kV_minus dc_minus pm_minus an_minus cd_minus ct_minus), sl_minus⟩) (c_minus : PySem.W.codeIn K cd_minus "minus" = true) (k_minus : PySem.W.keepIn K (.ref f_minus) = true)
    (a_times : PySem.W.nsIn K mainGlobals "times" = some (some (.ref f_times))) (l_times : K.lookup f_times = some ⟨oc_times, od_times, .func (PySem.W.fnOf "times" "times" (defArgs s_times) (defBody s_times) (defScope s_times) .none kV_times dc_times pm_times an_times cd_times ct_times), sl_times⟩) (c_times : PySem.W.codeIn K cd_times "times" = true) (k_times : PySem.W.keepIn K (.ref f_times) = true)
    (a_over : PySem.W.nsIn K mainGlobals "over" = some (some (.ref f_over))) (l_over : K.lookup f_over = some ⟨oc_over, od_over, .func (PySem.W.fnOf "over" "over" (defArgs s_over) (defBody s_over) (defScope s_over) .none kV_over dc_over pm_over an_over cd_over ct_over), sl_over⟩) (c_over : PySem.W.codeIn K cd_over "over" = true) (k_over : PySem.W.keepIn K (.ref f_over) = true)
    (a_is_less : PySem.W.nsIn K mainGlobals "is_less" = some (some (.ref f_is_less))) (l_is_less : K.lookup f_is_less = some ⟨oc_is_less, od_is_less, .func (PySem.W.fnOf "is_less" "is_less" (defArgs s_is_less) (defBody s_is_less) (defScope s_is_less) .none kV_is_less dc_is_less pm_is_less an_is_less cd_is_less ct_is_less), sl_is_less⟩) (c_is_less : PySem.W.codeIn K cd_is_less "is_less" = true) (k_is_less : PySem.W.keepIn K (.ref f_is_less) = true)
    (a_fraction_text : PySem.W.nsIn K mainGlobals "fraction_text" = some (some (.ref f_fraction_text))) (l_fraction_text : K.lookup f_fraction_text = some ⟨oc_fraction_text, od_fraction_text, .func (PySem.W.fnOf "fraction_text" "fraction_text" (defArgs s_fraction_text) (defBody s_fraction_text) (defScope s_fraction_text) .none kV_fraction_text dc_fraction_text pm_fraction_text an_fraction_text cd_fraction_text ct_fraction_text), sl_fraction_text⟩) (c_fraction_text : PySem.W.codeIn K cd_fraction_text "fraction_text" = true) (k_fraction_text : PySem.W.keepIn K (.ref f_fraction_text) = true)
    (a__law_deck : PySem.W.nsIn K mainGlobals "_law_deck" = some (some (.ref f__law_deck))) (l__law_deck : K.lookup f__law_deck = some ⟨oc__law_deck, od__law_deck, .func (PySem.W.fnOf "_law_deck" "_law_deck" (defArgs s__law_deck) (defBody s__law_deck) (defScope s__law_deck) .none kV__law_deck dc__law_deck pm__law_deck an__law_deck cd__law_deck ct__law_deck), sl__law_deck⟩) (c__law_deck : PySem.W.codeIn K cd__law_deck "_law_deck" = true) (k__law_deck : PySem.W.keepIn K (.ref f__law_deck) = true)
    (a__law_draw : PySem.W.nsIn K mainGlobals "_law_draw" = some (some (.ref f__law_draw))) (l__law_draw : K.lookup f__law_draw = some ⟨oc__law_draw, od__law_draw, .func (PySem.W.fnOf "_law_draw" "_law_draw" (defArgs s__law_draw) (defBody s__law_draw) (defScope s__law_draw) .none kV__law_draw dc__law_draw pm__law_draw an__law_draw cd__law_draw ct__law_draw), sl__law_draw⟩) (c__law_draw : PySem.W.codeIn K cd__law_draw "_law_draw" = true) (k__law_draw : PySem.W.keepIn K (.ref f__law_draw) = true)
    (a__law_pick : PySem.W.nsIn K mainGlobals "_law_pick" = some (some (.ref f__law_pick))) (l__law_pick : K.lookup f__law_pick = some ⟨oc__law_pick, od__law_pick, .func (PySem.W.fnOf "_law_pick" "_law_pick" (defArgs s__law_pick) (defBody s__law_pick) (defScope s__law_pick) .none kV__law_pick dc__law_pick pm__law_pick an__law_pick cd__law_pick ct__law_pick), sl__law_pick⟩) (c__law_pick : PySem.W.codeIn K cd__law_pick "_law_pick" = true) (k__law_pick : PySem.W.keepIn K (.ref f__law_pick) = true)
    (a__law_ratio : PySem.W.nsIn K mainGlobals "_law_ratio" = some (some (.ref f__law_ratio))) (l__law_ratio : K.lookup f__law_ratio = some ⟨oc__law_ratio, od__law_ratio, .func (PySem.W.fnOf "_law_ratio" "_law_ratio" (defArgs s__law_ratio) (defBody s__law_ratio) (defScope s__law_ratio) .none kV__law_ratio dc__law_ratio pm__law_ratio an__law_ratio cd__law_ratio ct__law_ratio), sl__law_ratio⟩) (c__law_ratio : PySem.W.codeIn K cd__law_ratio "_law_ratio" = true) (k__law_ratio : PySem.W.keepIn K (.ref f__law_ratio) = true)
    (a__law_whole : PySem.W.nsIn K mainGlobals "_law_whole" = some (some (.ref f__law_whole))) (l__law_whole : K.lookup f__law_whole = some ⟨oc__law_whole, od__law_whole, .func (PySem.W.fnOf "_law_whole" "_law_whole" (defArgs s__law_whole) (defBody s__law_whole) (defScope s__law_whole) .none kV__law_whole dc__law_whole pm__law_whole an__law_whole cd__law_whole ct__law_whole), sl__law_whole⟩) (c__law_whole : PySem.W.codeIn K cd__law_whole "_law_whole" = true) (k__law_whole : PySem.W.keepIn K (.ref f__law_whole) = true)
    (a__law_is_whole : PySem.W.nsIn K mainGlobals "_law_is_whole" = some (some (.ref f__law_is_whole))) (l__law_is_whole : K.lookup f__law_is_whole = some ⟨oc__law_is_whole, od__law_is_whole, .func (PySem.W.fnOf "_law_is_whole" "_law_is_whole" (defArgs s__law_is_whole) (defBody s__law_is_whole) (defScope s__law_is_whole) .none kV__law_is_whole dc__law_is_whole pm__law_is_whole an__law_is_whole cd__law_is_whole ct__law_is_whole), sl__law_is_whole⟩) (c__law_is_whole : PySem.W.codeIn K cd__law_is_whole "_law_is_whole" = true) (k__law_is_whole : PySem.W.keepIn K (.ref f__law_is_whole) = true)
    (a__law_is_fraction : PySem.W.nsIn K mainGlobals "_law_is_fraction" = some (some (.ref f__law_is_fraction))) (l__law_is_fraction : K.lookup f__law_is_fraction = some ⟨oc__law_is_fraction, od__law_is_fraction, .func (PySem.W.fnOf "_law_is_fraction" "_law_is_fraction" (defArgs s__law_is_fraction) (defBody s__law_is_fraction) (defScope s__law_is_fraction) .none kV__law_is_fraction dc__law_is_fraction pm__law_is_fraction an__law_is_fraction cd__law_is_fraction ct__law_is_fraction), sl__law_is_fraction⟩) (c__law_is_fraction : PySem.W.codeIn K cd__law_is_fraction "_law_is_fraction" = true) (k__law_is_fraction : PySem.W.keepIn K (.ref f__law_is_fraction) = true)
    (a__law_page : PySem.W.nsIn K mainGlobals "_law_page" = some (some (.ref f__law_page))) (l__law_page : K.lookup f__law_page = some ⟨oc__law_page, od__law_page, .func (PySem.W.fnOf "_law_page" "_law_page" (defArgs s__law_page) (defBody s__law_page) (defScope s__law_page) .none kV__law_page dc__law_page pm__law_page an__law_page cd__law_page ct__law_page), sl__law_page⟩) (c__law_page : PySem.W.codeIn K cd__law_page "_law_page" = true) (k__law_page : PySem.W.keepIn K (.ref f__law_page) = true)
    (a__law_one_right : PySem.W.nsIn K mainGlobals "_law_one_right" = some (some (.ref f__law_one_right))) (l__law_one_right : K.lookup f__law_one_right = some ⟨oc__law_one_right, od__law_one_right, .func (PySem.W.fnOf "_law_one_right" "_law_one_right" (defArgs s__law_one_right) (defBody s__law_one_right) (defScope s__law_one_right) .none kV__law_one_right dc__law_one_right pm__law_one_right an__law_one_right cd__law_one_right ct__law_one_right), sl__law_one_right⟩) (c__law_one_right : PySem.W.codeIn K cd__law_one_right "_law_one_right" = true) (k__law_one_right : PySem.W.keepIn K (.ref f__law_one_right) = true)
    (a__law_two_right : PySem.W.nsIn K mainGlobals "_law_two_right" = some (some (.ref f__law_two_right))) (l__law_two_right : K.lookup f__law_two_right = some ⟨oc__law_two_right, od__law_two_right, .func (PySem.W.fnOf "_law_two_right" "_law_two_right" (defArgs s__law_two_right) (defBody s__law_two_right) (defScope s__law_two_right) .none kV__law_two_right dc__law_two_right pm__law_two_right an__law_two_right cd__law_two_right ct__law_two_right), sl__law_two_right⟩) (c__law_two_right : PySem.W.codeIn K cd__law_two_right "_law_two_right" = true) (k__law_two_right : PySem.W.keepIn K (.ref f__law_two_right) = true)
    (a_law : PySem.W.nsIn K mainGlobals "law" = some (some (.ref f_law))) (l_law : K.lookup f_law = some ⟨oc_law, od_law, .func (PySem.W.fnOf "law" "law" (defArgs s_law) (defBody s_law) (defScope s_law) .none kV_law dc_law pm_law an_law cd_law ct_law), sl_law⟩) (c_law : PySem.W.codeIn K cd_law "law" = true) (k_law : PySem.W.keepIn K (.ref f_law) = true)
    (v_gcd : PySem.W.nsIn K mainGlobals "gcd" = some (some (.builtin "math.gcd")))
    {tok_LIMIT : Tok} (v_LIMIT : PySem.W.nsIn K mainGlobals "LIMIT" = some (some (.int 10000000000000000000000000000000000000000000000000000000000000000 tok_LIMIT)))
    (z_abs : PySem.W.nsIn K mainGlobals "abs" = some none) (z_bool : PySem.W.nsIn K mainGlobals "bool" = some none) (z_divmod : PySem.W.nsIn K mainGlobals "divmod" = some none) (z_isinstance : PySem.W.nsIn K mainGlobals "isinstance" = some none) (z_int : PySem.W.nsIn K mainGlobals "int" = some none) (z_len : PySem.W.nsIn K mainGlobals "len" = some none) (z_list : PySem.W.nsIn K mainGlobals "list" = some none) (z_range : PySem.W.nsIn K mainGlobals "range" = some none) (z_repr : PySem.W.nsIn K mainGlobals "repr" = some none) (z_str : PySem.W.nsIn K mainGlobals "str" = some none) (z_tuple : PySem.W.nsIn K mainGlobals "tuple" = some none) :
    ∃ fd : FuncData, (∀ (s : Shared) (v : Value), BindsTo s fd ⟨[v], []⟩ [("_law_script", v)]) ∧ ∀ base : Heap, K.In base → base.Ns mainGlobals mg → base.NoDigits → GFn l.prog w K mg base CX0 6 fa fd ["_law_script"] (spLaw K) := by
  have e := hfa.symm.trans (PySem.W.mg_of X G a_law)
  cases e
  have F_figures_of := fun_mk (st := s_figures_of) l_figures_of c_figures_of k_figures_of
  have b_figures_of := F_figures_of.binds (ps := ["number"]) fun _ _ _ _ _ _ us hl => match us, hl with | [_], _ => rfl
  have m_figures_of := PySem.W.mg_of X G a_figures_of
  have F_is_integer := fun_mk (st := s_is_integer) l_is_integer c_is_integer k_is_integer
  have b_is_integer := F_is_integer.binds (ps := ["thing"]) fun _ _ _ _ _ _ us hl => match us, hl with | [_], _ => rfl
  have m_is_integer := PySem.W.mg_of X G a_is_integer
  have F_is_tuple_of := fun_mk (st := s_is_tuple_of) l_is_tuple_of c_is_tuple_of k_is_tuple_of
  have b_is_tuple_of := F_is_tuple_of.binds (ps := ["thing", "many"]) fun _ _ _ _ _ _ us hl => match us, hl with | [_, _], _ => rfl
  have m_is_tuple_of := PySem.W.mg_of X G a_is_tuple_of
  have F_is_fraction := fun_mk (st := s_is_fraction) l_is_fraction c_is_fraction k_is_fraction
  have b_is_fraction := F_is_fraction.binds (ps := ["thing"]) fun _ _ _ _ _ _ us hl => match us, hl with | [_], _ => rfl
  have m_is_fraction := PySem.W.mg_of X G a_is_fraction
  have F_fraction := fun_mk (st := s_fraction) l_fraction c_fraction k_fraction
  have b_fraction := F_fraction.binds (ps := ["top", "bottom"]) fun _ _ _ _ _ _ us hl => match us, hl with | [_, _], _ => rfl
  have m_fraction := PySem.W.mg_of X G a_fraction
  have F_plus := fun_mk (st := s_plus) l_plus c_plus k_plus
  have b_plus := F_plus.binds (ps := ["one", "other"]) fun _ _ _ _ _ _ us hl => match us, hl with | [_, _], _ => rfl
  have m_plus := PySem.W.mg_of X G a_plus
  have F_minus := fun_mk (st := s_minus) l_minus c_minus k_minus
  have b_minus := F_minus.binds (ps := ["one", "other"]) fun _ _ _ _ _ _ us hl => match us, hl with | [_, _], _ => rfl
  have m_minus := PySem.W.mg_of X G a_minus
  have F_times := fun_mk (st := s_times) l_times c_times k_times
  have b_times := F_times.binds (ps := ["one", "other"]) fun _ _ _ _ _ _ us hl => match us, hl with | [_, _], _ => rfl
  have m_times := PySem.W.mg_of X G a_times
  have F_over := fun_mk (st := s_over) l_over c_over k_over
  have b_over := F_over.binds (ps := ["one", "other"]) fun _ _ _ _ _ _ us hl => match us, hl with | [_, _], _ => rfl
  have m_over := PySem.W.mg_of X G a_over
  have F_is_less := fun_mk (st := s_is_less) l_is_less c_is_less k_is_less
  have b_is_less := F_is_less.binds (ps := ["one", "other"]) fun _ _ _ _ _ _ us hl => match us, hl with | [_, _], _ => rfl
  have m_is_less := PySem.W.mg_of X G a_is_less
  have F_fraction_text := fun_mk (st := s_fraction_text) l_fraction_text c_fraction_text k_fraction_text
  have b_fraction_text := F_fraction_text.binds (ps := ["one"]) fun _ _ _ _ _ _ us hl => match us, hl with | [_], _ => rfl
  have m_fraction_text := PySem.W.mg_of X G a_fraction_text
  have F__law_deck := fun_mk (st := s__law_deck) l__law_deck c__law_deck k__law_deck
  have b__law_deck := F__law_deck.binds (ps := ["_law_script"]) fun _ _ _ _ _ _ us hl => match us, hl with | [_], _ => rfl
  have m__law_deck := PySem.W.mg_of X G a__law_deck
  have F__law_draw := fun_mk (st := s__law_draw) l__law_draw c__law_draw k__law_draw
  have b__law_draw := F__law_draw.binds (ps := ["_law_deck_here", "_law_much"]) fun _ _ _ _ _ _ us hl => match us, hl with | [_, _], _ => rfl
  have m__law_draw := PySem.W.mg_of X G a__law_draw
  have F__law_pick := fun_mk (st := s__law_pick) l__law_pick c__law_pick k__law_pick
  have b__law_pick := F__law_pick.binds (ps := ["_law_deck_here", "_law_some"]) fun _ _ _ _ _ _ us hl => match us, hl with | [_, _], _ => rfl
  have m__law_pick := PySem.W.mg_of X G a__law_pick
  have F__law_ratio := fun_mk (st := s__law_ratio) l__law_ratio c__law_ratio k__law_ratio
  have b__law_ratio := F__law_ratio.binds (ps := ["_law_up", "_law_down"]) fun _ _ _ _ _ _ us hl => match us, hl with | [_, _], _ => rfl
  have m__law_ratio := PySem.W.mg_of X G a__law_ratio
  have F__law_whole := fun_mk (st := s__law_whole) l__law_whole c__law_whole k__law_whole
  have b__law_whole := F__law_whole.binds (ps := ["_law_deck_here"]) fun _ _ _ _ _ _ us hl => match us, hl with | [_], _ => rfl
  have m__law_whole := PySem.W.mg_of X G a__law_whole
  have F__law_is_whole := fun_mk (st := s__law_is_whole) l__law_is_whole c__law_is_whole k__law_is_whole
  have b__law_is_whole := F__law_is_whole.binds (ps := ["_law_it"]) fun _ _ _ _ _ _ us hl => match us, hl with | [_], _ => rfl
  have m__law_is_whole := PySem.W.mg_of X G a__law_is_whole
  have F__law_is_fraction := fun_mk (st := s__law_is_fraction) l__law_is_fraction c__law_is_fraction k__law_is_fraction
  have b__law_is_fraction := F__law_is_fraction.binds (ps := ["_law_it"]) fun _ _ _ _ _ _ us hl => match us, hl with | [_], _ => rfl
  have m__law_is_fraction := PySem.W.mg_of X G a__law_is_fraction
  have F__law_page := fun_mk (st := s__law_page) l__law_page c__law_page k__law_page
  have b__law_page := F__law_page.binds (ps := ["_law_it"]) fun _ _ _ _ _ _ us hl => match us, hl with | [_], _ => rfl
  have m__law_page := PySem.W.mg_of X G a__law_page
  have F__law_one_right := fun_mk (st := s__law_one_right) l__law_one_right c__law_one_right k__law_one_right
  have b__law_one_right := F__law_one_right.binds (ps := ["_law_it"]) fun _ _ _ _ _ _ us hl => match us, hl with | [_], _ => rfl
  have m__law_one_right := PySem.W.mg_of X G a__law_one_right
  have F__law_two_right := fun_mk (st := s__law_two_right) l__law_two_right c__law_two_right k__law_two_right
  have b__law_two_right := F__law_two_right.binds (ps := ["_law_x", "_law_y"]) fun _ _ _ _ _ _ us hl => match us, hl with | [_, _], _ => rfl
  have m__law_two_right := PySem.W.mg_of X G a__law_two_right
  have F_law := fun_mk (st := s_law) l_law c_law k_law
  have kb_is_fraction_thing := kb_of (ps := ["thing"]) (ks := ["thing"]) (g := kwOne) (gV := kwOne) F_is_fraction (fun kV doc pm an cdv ct us ws hl => by
    obtain ⟨x, rfl, rfl⟩ := kwOne_args hl
    rfl) kwOne_rel
  have kb_fraction_bottom_top := kb_of (ps := ["top", "bottom"]) (ks := ["bottom", "top"]) (g := kwTurn) (gV := kwTurn) F_fraction (fun kV doc pm an cdv ct us ws hl => by
    obtain ⟨x, y, rfl, rfl⟩ := kwTurn_args hl
    rfl) kwTurn_rel
  have kb_plus_other_one := kb_of (ps := ["one", "other"]) (ks := ["other", "one"]) (g := kwTurn) (gV := kwTurn) F_plus (fun kV doc pm an cdv ct us ws hl => by
    obtain ⟨x, y, rfl, rfl⟩ := kwTurn_args hl
    rfl) kwTurn_rel
  have kb_minus_other_one := kb_of (ps := ["one", "other"]) (ks := ["other", "one"]) (g := kwTurn) (gV := kwTurn) F_minus (fun kV doc pm an cdv ct us ws hl => by
    obtain ⟨x, y, rfl, rfl⟩ := kwTurn_args hl
    rfl) kwTurn_rel
  have kb_times_other_one := kb_of (ps := ["one", "other"]) (ks := ["other", "one"]) (g := kwTurn) (gV := kwTurn) F_times (fun kV doc pm an cdv ct us ws hl => by
    obtain ⟨x, y, rfl, rfl⟩ := kwTurn_args hl
    rfl) kwTurn_rel
  have kb_over_other_one := kb_of (ps := ["one", "other"]) (ks := ["other", "one"]) (g := kwTurn) (gV := kwTurn) F_over (fun kV doc pm an cdv ct us ws hl => by
    obtain ⟨x, y, rfl, rfl⟩ := kwTurn_args hl
    rfl) kwTurn_rel
  have kb_is_less_other_one := kb_of (ps := ["one", "other"]) (ks := ["other", "one"]) (g := kwTurn) (gV := kwTurn) F_is_less (fun kV doc pm an cdv ct us ws hl => by
    obtain ⟨x, y, rfl, rfl⟩ := kwTurn_args hl
    rfl) kwTurn_rel
  have kb_fraction_text_one := kb_of (ps := ["one"]) (ks := ["one"]) (g := kwOne) (gV := kwOne) F_fraction_text (fun kV doc pm an cdv ct us ws hl => by
    obtain ⟨x, rfl, rfl⟩ := kwOne_args hl
    rfl) kwOne_rel
  have T : Txt mg := ⟨PySem.W.mg_none_of X G z_abs, PySem.W.mg_none_of X G z_bool, PySem.W.mg_none_of X G z_divmod, PySem.W.mg_of X G v_gcd, PySem.W.mg_none_of X G z_isinstance, PySem.W.mg_none_of X G z_int, PySem.W.mg_none_of X G z_len, PySem.W.mg_none_of X G z_list, PySem.W.mg_none_of X G z_range, PySem.W.mg_none_of X G z_repr, PySem.W.mg_none_of X G z_str, PySem.W.mg_none_of X G z_tuple, ⟨_, PySem.W.mg_of X G v_LIMIT⟩⟩
  refine ⟨PySem.W.fnOf "law" "law" (defArgs s_law) (defBody s_law) (defScope s_law) .none kV_law dc_law pm_law an_law cd_law ct_law, fun s v => .of_eq rfl, fun base _ _ hdg => ?_⟩
  exact ok_law hdg F_law F__law_draw m__law_draw b__law_draw F__law_pick m__law_pick b__law_pick F__law_deck m__law_deck b__law_deck F__law_ratio m__law_ratio b__law_ratio F__law_whole m__law_whole b__law_whole F__law_is_whole m__law_is_whole b__law_is_whole F__law_is_fraction m__law_is_fraction b__law_is_fraction F__law_page m__law_page b__law_page F__law_one_right m__law_one_right b__law_one_right F__law_two_right m__law_two_right b__law_two_right ((ok_is_fraction F_is_fraction F_is_integer m_is_integer b_is_integer F_is_tuple_of m_is_tuple_of b_is_tuple_of T).mono (by decide)) F_is_fraction m_is_fraction b_is_fraction kb_is_fraction_thing ((ok_fraction F_fraction T).mono (by decide)) F_fraction m_fraction b_fraction kb_fraction_bottom_top ((ok_plus F_plus F_fraction m_fraction b_fraction T).mono (by decide)) F_plus m_plus b_plus kb_plus_other_one ((ok_minus F_minus F_fraction m_fraction b_fraction T).mono (by decide)) F_minus m_minus b_minus kb_minus_other_one ((ok_times F_times F_fraction m_fraction b_fraction T).mono (by decide)) F_times m_times b_times kb_times_other_one ((ok_over F_over F_fraction m_fraction b_fraction T).mono (by decide)) F_over m_over b_over kb_over_other_one ((ok_is_less F_is_less T).mono (by decide)) F_is_less m_is_less b_is_less kb_is_less_other_one ((ok_fraction_text F_fraction_text F_figures_of m_figures_of b_figures_of T).mono (by decide)) F_fraction_text m_fraction_text b_fraction_text kb_fraction_text_one T
end SG
open PySem PySem.W PyProof.Rows
set_option maxHeartbeats 0 in
theorem PySem.Challenge.cw_serialhouse_k38_fractions_holds : PySem.Challenge.rw_serialhouse_k38_fractions.Holds := by
  w_on; o_law; k_head; (case hw => w_witness2)
  k_fill
  refine SG.walk_g (l := PySem.Challenge.rw_serialhouse_k38_fractions) (n := 63) (k := 6) (x := "_law_script") (sp := SG.spLaw) rfl (by decide) rfl ⟨rfl, by decide, by decide⟩ (fun w h Y => PySem.W.kIn_of Y) ?F (fun _ _ a ns hl _ hS => ⟨a, ns, rfl, hS, hl, fun _ => rfl⟩)
  case F =>
    intro w mg fa h KX G hmg
    refine' SG.all_mk KX G hmg ?a_figures_of ?l_figures_of ?c_figures_of ?k_figures_of ?a_is_integer ?l_is_integer ?c_is_integer ?k_is_integer ?a_is_tuple_of ?l_is_tuple_of ?c_is_tuple_of ?k_is_tuple_of ?a_is_fraction ?l_is_fraction ?c_is_fraction ?k_is_fraction ?a_fraction ?l_fraction ?c_fraction ?k_fraction ?a_plus ?l_plus ?c_plus ?k_plus ?a_minus ?l_minus ?c_minus ?k_minus ?a_times ?l_times ?c_times ?k_times ?a_over ?l_over ?c_over ?k_over ?a_is_less ?l_is_less ?c_is_less ?k_is_less ?a_fraction_text ?l_fraction_text ?c_fraction_text ?k_fraction_text ?a__law_deck ?l__law_deck ?c__law_deck ?k__law_deck ?a__law_draw ?l__law_draw ?c__law_draw ?k__law_draw ?a__law_pick ?l__law_pick ?c__law_pick ?k__law_pick ?a__law_ratio ?l__law_ratio ?c__law_ratio ?k__law_ratio ?a__law_whole ?l__law_whole ?c__law_whole ?k__law_whole ?a__law_is_whole ?l__law_is_whole ?c__law_is_whole ?k__law_is_whole ?a__law_is_fraction ?l__law_is_fraction ?c__law_is_fraction ?k__law_is_fraction ?a__law_page ?l__law_page ?c__law_page ?k__law_page ?a__law_one_right ?l__law_one_right ?c__law_one_right ?k__law_one_right ?a__law_two_right ?l__law_two_right ?c__law_two_right ?k__law_two_right ?a_law ?l_law ?c_law ?k_law ?v_gcd ?v_LIMIT ?z_abs ?z_bool ?z_divmod ?z_isinstance ?z_int ?z_len ?z_list ?z_range ?z_repr ?z_str ?z_tuple
    (case a_figures_of => k_is); (case l_figures_of => k_is); (case c_figures_of => k_is); (case k_figures_of => k_is); (case a_is_integer => k_is); (case l_is_integer => k_is); (case c_is_integer => k_is); (case k_is_integer => k_is); (case a_is_tuple_of => k_is); (case l_is_tuple_of => k_is); (case c_is_tuple_of => k_is); (case k_is_tuple_of => k_is); (case a_is_fraction => k_is); (case l_is_fraction => k_is); (case c_is_fraction => k_is); (case k_is_fraction => k_is); (case a_fraction => k_is); (case l_fraction => k_is); (case c_fraction => k_is); (case k_fraction => k_is); (case a_plus => k_is); (case l_plus => k_is); (case c_plus => k_is); (case k_plus => k_is); (case a_minus => k_is); (case l_minus => k_is); (case c_minus => k_is); (case k_minus => k_is); (case a_times => k_is); (case l_times => k_is); (case c_times => k_is); (case k_times => k_is); (case a_over => k_is); (case l_over => k_is); (case c_over => k_is); (case k_over => k_is); (case a_is_less => k_is); (case l_is_less => k_is); (case c_is_less => k_is); (case k_is_less => k_is); (case a_fraction_text => k_is); (case l_fraction_text => k_is); (case c_fraction_text => k_is); (case k_fraction_text => k_is); (case a__law_deck => k_is); (case l__law_deck => k_is); (case c__law_deck => k_is); (case k__law_deck => k_is); (case a__law_draw => k_is); (case l__law_draw => k_is); (case c__law_draw => k_is); (case k__law_draw => k_is); (case a__law_pick => k_is); (case l__law_pick => k_is); (case c__law_pick => k_is); (case k__law_pick => k_is); (case a__law_ratio => k_is); (case l__law_ratio => k_is); (case c__law_ratio => k_is); (case k__law_ratio => k_is); (case a__law_whole => k_is); (case l__law_whole => k_is); (case c__law_whole => k_is); (case k__law_whole => k_is); (case a__law_is_whole => k_is); (case l__law_is_whole => k_is); (case c__law_is_whole => k_is); (case k__law_is_whole => k_is); (case a__law_is_fraction => k_is); (case l__law_is_fraction => k_is); (case c__law_is_fraction => k_is); (case k__law_is_fraction => k_is); (case a__law_page => k_is); (case l__law_page => k_is); (case c__law_page => k_is); (case k__law_page => k_is); (case a__law_one_right => k_is); (case l__law_one_right => k_is); (case c__law_one_right => k_is); (case k__law_one_right => k_is); (case a__law_two_right => k_is); (case l__law_two_right => k_is); (case c__law_two_right => k_is); (case k__law_two_right => k_is); (case a_law => k_is); (case l_law => k_is); (case c_law => k_is); (case k_law => k_is); (case v_gcd => k_is); (case v_LIMIT => k_is); (case z_abs => k_is); (case z_bool => k_is); (case z_divmod => k_is); (case z_isinstance => k_is); (case z_int => k_is); (case z_len => k_is); (case z_list => k_is); (case z_range => k_is); (case z_repr => k_is); (case z_str => k_is); (case z_tuple => k_is)
