import PyProof.Rows.All
import Wide.All
import OpenK.AllK
import Wide.FinOn
import HandS.ForMost
import HandS.IsInst
import HandS.Style
import HandS.Wide
import PyProof.Rows.Digits
import KE.GoesEnum
import HandS.Zip
import HandS.TupAny
import HandS.Codes
import PyProof.ReprBulk
import HandS.Text
import KE.GoesEnumKw
import PyProof.FString3
import PyProof.Rows.StrIntSpec
import HandS.FStr
import HandS.Walk
import HandS.Gcd
import HandS.StrMore
import HandS.WideBits
import PyProof.ReprDict
import PyProof.NeKinds
import PyProof.Rows.IntBool
import PyProof.StrOps2
import HandS.RevTup
import HandS.SetFor
import HandS.Strs
import KE.DataFind
import PyProof.Rows.ReprOcc
import HandS.SortInts
import HandS.SortRule
import HandS.Dict
import HandS.Conv
import HandS.Iter
import PySem.Challenge.RW_serialhouse_k44_trees_of_any_value
import KE.KIntText
import HandS.DictComp
set_option Elab.async false
set_option linter.all false
set_option maxRecDepth 100000
/-! Contracts of defs that know the guards: where no text of an object is being told, repr can be asked. -/
namespace SG
open PySem PySem.Spec PyProof.Rows L2

/-- a def's promise, kept wherever no guard stands -/
structure GFn (pr : Program) (wo : World) (K : PySem.W.Frag) (mg : Str → Option Value) (ba : Heap) (cx : CXT) (k : Nat) (f : Addr) (fd : FuncData) (ps : List Str) (sp : Sp) : Prop where
  len : ∀ xs Hx R Ex, sp xs Hx R Ex → xs.length = ps.length
  go : ∀ (B : Around) (fr : List Env) (st : Shared) (Hx : Hp) (ar : Args) (vals : List Value) (xs : List V) (R : VK) (Ex : XK),
    B.guards = some [] → Room k B → Env0 pr wo K mg ba B fr st Hx → BindsTo st fd ar (ps.zip vals) → Vals xs vals → sp xs Hx R Ex →
    codeAny (model pr wo) B (.call (.ref f) ar) (CR cx fr pr wo Hx st R Ex) st

variable {pr : Program} {wo : World} {K : PySem.W.Frag} {mg : Str → Option Value} {ba : Heap} {cx : CXT}

theorem GFn.mono {j k : Nat} {f : Addr} {fd : FuncData} {ps : List Str} {sp : Sp} (F : GFn pr wo K mg ba cx j f fd ps sp) (h : j ≤ k) :
    GFn pr wo K mg ba cx k f fd ps sp :=
  ⟨F.len, fun B fr st Hx ar vals xs R Ex g hr => F.go B fr st Hx ar vals xs R Ex g (hr.mono h)⟩
theorem GFn.imp {k : Nat} {f : Addr} {fd : FuncData} {ps : List Str} {sp sq : Sp} (F : GFn pr wo K mg ba cx k f fd ps sp)
    (h : ∀ xs Hx R Ex, sq xs Hx R Ex → sp xs Hx R Ex) : GFn pr wo K mg ba cx k f fd ps sq :=
  ⟨fun xs Hx R Ex q => F.len xs Hx R Ex (h _ _ _ _ q), fun B fr st Hx ar vals xs R Ex g hr e b v q => F.go B fr st Hx ar vals xs R Ex g hr e b v (h _ _ _ _ q)⟩
/-- what is kept anywhere is kept here -/
theorem GFn.of {k : Nat} {f : Addr} {fd : FuncData} {ps : List Str} {sp : Sp} (F : FnOk pr wo K mg ba cx k f fd ps sp) : GFn pr wo K mg ba cx k f fd ps sp :=
  ⟨F.len, fun B fr st Hx ar vals xs R Ex _ hr => F.run B fr st Hx ar vals xs R Ex hr⟩

/-- a def by its body -/
theorem gfn_of {k : Nat} {f : Addr} {nm qn : Str} {pa : Arguments} {bd : List Stmt} {sc : Scope} {dV kV dc pm cdv ct oc : Value} {an od : Option Addr} {osl : Array (Option Value)} {N ps : List Str} {sp : Sp}
    (lk : K.lookup f = some ⟨oc, od, .func (PySem.W.fnOf nm qn pa bd sc dV kV dc pm an cdv ct), osl⟩) (hcd : PySem.W.codeIn K cdv qn = true) (S : FnScope N ps sc)
    (len : ∀ xs Hx R Ex, sp xs Hx R Ex → xs.length = ps.length)
    (hb : ∀ (B : Around) (fr : List Env) (st : Shared) (Hx : Hp) (xs : List V) (R : VK) (Ex : XK), B.guards = some [] → Room k (B.deeper (envOfC qn sc st.heap.objs.size f cdv)) → sp xs Hx R Ex →
      ∃ t, PSs (cxOf cx pr wo K mg ba N qn sc f cdv B fr st Hx Ex) bd t ∧ t { nx := fun _ H2 => R .non H2, rt := R } (start N xs) Hx) :
    GFn pr wo K mg ba cx (k + 1) f (PySem.W.fnOf nm qn pa bd sc dV kV dc pm an cdv ct) ps sp := by
  refine ⟨len, fun B fr st Hx ar vals xs R Ex g hr e0 hbd rv hsp => ?_⟩
  have KX : K.In st.heap := e0.mod.kin.keeps fun b o e => (e0.bs b o e).1
  have lim : st.heap.NoLimit := e0.mod.nolimit.keeps fun b o e => (e0.bs b o e).1
  have hkn : ∀ y ∈ ps.zip vals, sc.names.lookup y.1 = some .local ∨ (sc.names.lookup y.1 = some .cell ∧ ((cellsFrom (st.heap.objs.size + 1) sc.names []).lookup y.1).isSome = true) := by
    rintro ⟨n, v⟩ hy
    rcases S.par n (List.of_mem_zip hy).1 with q | q
    · exact .inl q
    · exact .inr ⟨q, PySem.W.cellsFrom_some _ _ _ (.inl q)⟩
  refine codeAny_call_function hr.depth (KX _ _ lk) rfl S.co S.gen rfl (PySem.W.codeRec_of KX hcd) (hbd _ _ _ _ ?_)
  refine wpAny_newFunctionEnv_cells S.kind hkn fun env he s1 x => ?_
  subst he
  refine ⟨lim.keeps x.toInCall.keep, codeAny_func ?_⟩
  obtain ⟨t, ht, hq⟩ := hb B fr st Hx xs R Ex g (hr.deeper _) hsp
  have I : Inv (cxOf cx pr wo K mg ba N qn sc f cdv B fr st Hx Ex) [] (start N xs) Hx s1 := inv_start S hr.hd e0 (len _ _ _ _ hsp) rv x
  refine wpAny_mono (ht.run [] s1 (start N xs) Hx _ I hq) (fun fl s2 hs => ?_) fun e s2 hs => hs
  have fin : ∀ {τ : L2.St} {H2 : Hp} {v : V} {u : Value}, Inv (cxOf cx pr wo K mg ba N qn sc f cdv B fr st Hx Ex) [] τ H2 s2 → RelV v u → R v H2 → CE fr pr wo Hx st R u s2 :=
    fun {τ H2 v u} J r1 q => ⟨v, H2, J.os, J.bare, J.base, J.hok, r1, q⟩
  cases fl with
  | ret u => obtain ⟨v, τ, H2, J, r1, q⟩ := hs; exact fin J r1 q
  | next => obtain ⟨τ, H2, J, q⟩ := hs; exact fin (v := V.non) (u := Value.none) J rfl q
  | brk => obtain ⟨_, _, _, q⟩ := hs; exact q.elim
  | cont => obtain ⟨_, _, _, q⟩ := hs; exact q.elim

theorem gfun_ok {x qn : Str} {s0 : Stmt} {f : Addr} {fd : FuncData} {N ps : List Str} {k : Nat} {sp : Sp} (F : Fun K x qn s0 f fd) (S : FnScope N ps (defScope s0)) (len : ∀ xs Hx R Ex, sp xs Hx R Ex → xs.length = ps.length)
    (hb : ∀ (cdv : Value) (B : Around) (fr : List Env) (st : Shared) (Hx : Hp) (xs : List V) (R : VK) (Ex : XK), (B.deeper (envOfC qn (defScope s0) st.heap.objs.size f cdv)).guards = some [] →
      Room k (B.deeper (envOfC qn (defScope s0) st.heap.objs.size f cdv)) → sp xs Hx R Ex →
      ∃ t, PSs (cxOf CX0 pr wo K mg ba N qn (defScope s0) f cdv B fr st Hx Ex).nox (defBody s0) t ∧ t { nx := fun _ H2 => R .non H2, rt := R } (start N xs) Hx) :
    GFn pr wo K mg ba CX0 (k + 1) f fd ps sp := by
  obtain ⟨oc, od, kV, dc, pm, an, cdv, ct, osl, rfl, lk, hcd⟩ := F.ex
  refine gfn_of lk hcd S len fun B fr st Hx xs R Ex g hr hsp => ?_
  obtain ⟨t, h, q⟩ := hb cdv B fr st Hx xs R Ex g hr hsp
  exact ⟨t, h.nox, q⟩

section
variable {X : Cx} {k : Nat} {f : Addr} {fd : FuncData} {ps ks : List Str} {sp : Sp} {dvs : List V} {ds : List Value} {Ex : XK} {x : Str} {p pos : Pos} {e : Expr} {es : List Expr} {kws : List Keyword} {t tk : TA}

theorem end_of {pins : List (Addr × Obj)} {σ : L2.St} {Hx : Hp} {st s2 : Shared} {R : VK} {r : Result} (hx : Passes cx X Ex) (I : Inv X pins σ Hx st) (q : CR cx X.stack X.prog X.w Hx st R Ex r s2) :
    (match r with | .ok (.ret u) => EP X pins σ R u s2 | .ok _ => False | .error e => X.xe e s2) := by
  cases r with
  | error e => exact hx pins σ Hx st e s2 I q
  | ok fl => cases fl <;> first | exact I.after q | exact False.elim q

theorem run_g {pins : List (Addr × Obj)} {σ : L2.St} {Hx : Hp} {st : Shared} {R : VK} {ar : Args} {vals : List Value} {xs : List V} (F : GFn X.prog X.w X.K X.mg X.base cx k f fd ps sp) (hg : X.A.guards = some []) (hr : Room k X.A) (hx : Passes cx X Ex)
    (I : Inv X pins σ Hx st) (hb : BindsTo st fd ar (ps.zip vals)) (r : Vals xs vals) (h : sp xs Hx R Ex) {us : List Value} {kw : List (Str × Value)} (ea : ar = ⟨us, kw⟩) : wpAny (model X.prog X.w) X.A (call (.ref f) us kw) (EP X pins σ R) X.xe st := by
  subst ea
  refine wpAny_call (codeAny_mono (F.go X.A X.stack st Hx _ vals xs R Ex hg hr I.env0 hb r h) fun r s2 hq => ?_)
  have z := end_of hx I hq
  cases r with
  | error e => exact z
  | ok fl => cases fl <;> exact z

/-- f(a, ..) -/
theorem pe_g (F : GFn X.prog X.w X.K X.mg X.base cx k f fd ps sp) (hgu : X.A.guards = some []) (hr : Room k X.A) (hg : Gl X x) (hm : X.mg x = some (.ref f)) (hk : PySem.W.keepIn X.K (.ref f) = true) (hb : Binds X.K fd ps ds) (hd : Vals dvs ds) (hx : Passes cx X Ex)
    (ha : PA X (e :: es) t) (hdb : (x == ("__debug__" : Str)) = false := by decide) (he : starEach (e :: es) X.env = (false, eval e X.env) :: starEach es X.env := by rfl) (hpl : (backTo pos (starEach es X.env)).any (·.1) = false := by rfl) :
    PE X (.Call (.Name x p) (e :: es) [] pos) (tCall sp dvs Ex t) := by
  refine ⟨fun pins st σ Hx R I h => wpAny_Call_Name_kw (ld_glob I hg hm ?_ hdb)⟩
  refine PySem.W.callWith_K (h₀ := X.base) I.ok.mod.kin hk (thn (ha.run pos pins st σ Hx _ I h) ?_) he hpl
  rintro us s1 ⟨vs, H1, I1, r, q⟩
  have r2 : Vals (vs ++ dvs) (us ++ ds) := r.append hd
  exact ⟨I1.kIn, run_g F hgu hr hx I1 (hb s1 us I1.kIn (by rw [← r2.length]; exact F.len _ _ _ _ q)) r2 q rfl⟩

/-- f(a, .., k = b, ..) -/
theorem pe_gK {g : List Value → List Value → List Value} {gV : List V → List V → List V} (F : GFn X.prog X.w X.K X.mg X.base cx k f fd ps sp) (hgu : X.A.guards = some []) (hr : Room k X.A) (hg : Gl X x) (hm : X.mg x = some (.ref f)) (hk : PySem.W.keepIn X.K (.ref f) = true)
    (hb : KBinds X.K fd ps ks g gV) (hx : Passes cx X Ex) (ha : PA X (e :: es) t) (hkw : PK X kws tk) (hall : (backToKw pos (keywordEach kws X.env)).all (·.1.isSome) = true := by rfl) (hks : (backToKw pos (keywordEach kws X.env)).filterMap (·.1) = ks := by rfl)
    (hdb : (x == ("__debug__" : Str)) = false := by decide) (he : starEach (e :: es) X.env = (false, eval e X.env) :: starEach es X.env := by rfl)
    (hpl : ((backTo pos (starEach (e :: es) X.env)).any (·.1) || (backToKw pos (keywordEach kws X.env)).any (·.1.isNone)) = false := by rfl) :
    PE X (.Call (.Name x p) (e :: es) kws pos) (tCallK sp gV Ex t tk) := by
  refine ⟨fun pins st σ Hx R I h => wpAny_Call_Name_kw (ld_glob I hg hm ?_ hdb)⟩
  refine PySem.W.callWith_KW (h₀ := X.base) I.ok.mod.kin hk hall (thn (ha.run pos pins st σ Hx _ I h) ?_) hpl he
  rintro us s1 ⟨vs, H1, I1, r, q⟩
  refine thn (hkw.run pos pins s1 σ H1 _ I1 q) ?_
  rintro ws s2 ⟨zs, H2, I2, rz, q2⟩
  refine ⟨I2.kIn, ?_⟩
  rw [hks]
  have r2 := hb.rel r rz
  exact run_g F hgu hr hx I2 (hb.to s2 us ws I2.kIn (by rw [← r2.length]; exact F.len _ _ _ _ q2)) r2 q2 rfl
/-- f(k = b, ..) -/
theorem pe_gK0 {g : List Value → List Value → List Value} {gV : List V → List V → List V} (F : GFn X.prog X.w X.K X.mg X.base cx k f fd ps sp) (hgu : X.A.guards = some []) (hr : Room k X.A) (hg : Gl X x) (hm : X.mg x = some (.ref f)) (hk : PySem.W.keepIn X.K (.ref f) = true)
    (hb : KBinds X.K fd ps ks g gV) (hx : Passes cx X Ex) (hkw : PK X kws tk) (hall : (backToKw pos (keywordEach kws X.env)).all (·.1.isSome) = true := by rfl) (hks : (backToKw pos (keywordEach kws X.env)).filterMap (·.1) = ks := by rfl)
    (hdb : (x == ("__debug__" : Str)) = false := by decide) (hpl : ((backTo pos (starEach [] X.env)).any (·.1) || (backToKw pos (keywordEach kws X.env)).any (·.1.isNone)) = false := by rfl) :
    PE X (.Call (.Name x p) [] kws pos) (tCallK sp gV Ex tNil tk) := by
  refine ⟨fun pins st σ Hx R I h => wpAny_Call_Name_kw (ld_glob I hg hm ?_ hdb)⟩
  refine PySem.W.callWith_KW0 (h₀ := X.base) I.ok.mod.kin hk hall (thn (hkw.run pos pins st σ Hx _ I h) ?_) hpl
  rintro ws s2 ⟨zs, H2, I2, rz, q2⟩
  refine ⟨I2.kIn, ?_⟩
  rw [hks]
  have r2 := hb.rel (Paired.nil : Vals [] []) rz
  exact run_g F hgu hr hx I2 (hb.to s2 [] ws I2.kIn (by rw [← r2.length]; exact F.len _ _ _ _ q2)) r2 q2 rfl
end

/-! ### the law's own call -/
theorem law_g {mb : Str → Option Value} {k : Nat} {fa a : Addr} {fd : FuncData} {x : Str} {sp : Sp} {s1 : Shared} {its : List Value} {ns : List Int}
    (KX : K.In s1.heap) (hmg : s1.heap.Ns mainGlobals mg) (hmb : s1.heap.Ns builtinsNs mb) (hbb : ∀ x : Str, x ≠ "__name__" → mb x = bootBuiltins x) (hlim : s1.heap.NoLimit) (hdig : s1.heap.NoDigits) (hgen : s1.gens = #[])
    (ha : s1.heap.get? a = some { cls := .type "list", data := .seq its.toArray }) (hi : IntsAre its ns) (hl : ns.length ≤ sizeLine) (hr : Room k callerA)
    (F : ∀ ba : Heap, K.In ba → ba.Ns mainGlobals mg → ba.NoDigits → GFn pr wo K mg ba CX0 k fa fd [x] sp) (hbi : ∀ (st : Shared) (u : Value), BindsTo st fd ⟨[u], []⟩ [(x, u)])
    (hsp : ∀ Hx : Hp, Only Hx → SqL K Hx a (ns.map V.int) → sp [.ref a] Hx (fun v _ => v = .bl true) E0) :
    codeAny (model pr wo) callerA (.call (.ref fa) ⟨[.ref a], []⟩) (fun r s2 => r = .ok (.ret (.bool true)) ∧ OldK s1.heap s2.heap ∧ s2.os = s1.os ∧ AllBare s2.gens) s1 := by
  have rv := vals_ints hi
  have main : ∀ Hx : Hp, Only Hx → SqL K Hx a (ns.map V.int) → HOk pr wo Hx s1.heap → (∀ b, Hx b ≠ none → b = a) → (Hx a ≠ none → K.lookup a = none) →
      codeAny (model pr wo) callerA (.call (.ref fa) ⟨[.ref a], []⟩) (fun r s2 => r = .ok (.ret (.bool true)) ∧ OldK s1.heap s2.heap ∧ s2.os = s1.os ∧ AllBare s2.gens) s1 := by
    intro Hx hO hS ok one free
    have isA : ∀ {b : Addr} {u : HO}, Hx b = some u → b = a := fun {b u} q => one b (by rw [q]; nofun)
    have hid : ∀ {b : Addr} {o : Obj}, s1.heap.get? b = some o → Hx b = none → (hidT s1.heap Hx).get? b = some o := fun e n => hidT_get e n
    have noD : ∀ {b : Addr} {o : Obj} {es : Array DictEntry} {ep : Nat}, s1.heap.get? b = some o → o.data = .dict es ep → Hx b = none := by
      intro b o es ep e d
      rcases q : Hx b with _ | u
      · rfl
      · rw [isA q, ha] at e
        cases e
        cases d
    have nsH : ∀ {b : Addr} {m : Str → Option Value}, s1.heap.Ns b m → (hidT s1.heap Hx).Ns b m := by
      rintro b m ⟨o, es, ep, e, d, r⟩
      exact ⟨o, es, ep, hid e (noD e d), d, r⟩
    have kin : K.In (hidT s1.heap Hx) := by
      intro b o e
      refine hid (KX b o e) ?_
      rcases q : Hx b with _ | u
      · rfl
      · have eb := isA q
        subst eb
        rw [free (by rw [q]; nofun)] at e
        cases e
    have hM : Mod K mg (hidT s1.heap Hx) := ⟨kin, nsH hmg, ⟨mb, nsH hmb, hbb⟩, by obtain ⟨mc, h1, h2⟩ := hlim; exact ⟨mc, nsH h1, h2⟩⟩
    have e0 : Env0 pr wo K mg (hidT s1.heap Hx) callerA [] s1 Hx := ⟨rfl, hM, fun b o e => of_hidT e, Nat.le_of_eq (hidT_size _ _), trivial, fun b hb => (nomatch hb), ok, .of_eq hgen⟩
    refine codeAny_mono ((F _ kin (nsH hmg) (by obtain ⟨mc, h1, h2⟩ := hdig; exact ⟨mc, nsH h1, h2⟩)).go callerA [] s1 Hx ⟨[.ref a], []⟩ [.ref a] [.ref a] _ _ rfl hr e0 (hbi s1 (.ref a)) (.cons rfl .nil) (hsp Hx hO hS)) fun r s2 h => ?_
    rcases r with e | fl
    · exact False.elim h
    · cases fl with
      | next => exact False.elim h
      | brk => exact False.elim h
      | cont => exact False.elim h
      | ret u =>
        obtain ⟨v, H2, os, bare, un, ok2, r2, q⟩ := h
        obtain rfl : v = .bl true := q
        obtain rfl : u = Value.bool true := r2
        refine ⟨rfl, OldK.of_keep fun b o e => ?_, os, bare⟩
        rcases q : Hx b with _ | u
        · exact un.keep b o e q (fun z => nomatch z) (fun z => nomatch z)
        · rcases hO b with z | ⟨ob, xs, z⟩
          · rw [q] at z; cases z
          · obtain ⟨e1, _⟩ := ok b _ z
            obtain ⟨e2, _⟩ := ok2 b _ (un.frzs b ob _ z)
            rw [e] at e1
            cases e1
            exact e2
  rcases hk : K.lookup a with _ | o
  · refine main (fun b => if b = a then some (.frz { cls := .type "list", data := .seq its.toArray } (.lst (ns.map V.int))) else none) (fun b => ?_) (.inl (.inr ⟨_, if_pos rfl⟩)) (fun b u z => ?_) (fun b z => ?_) fun _ => hk
    · by_cases hb : b = a
      · exact .inr ⟨_, _, if_pos hb⟩
      · exact .inl (if_neg hb)
    · by_cases hb : b = a
      · cases (if_pos hb).symm.trans z
        subst hb
        exact ⟨ha, by rw [List.length_map]; exact hl, its, _, rv, ha⟩
      · cases (if_neg hb).symm.trans z
    · by_cases hb : b = a
      · exact hb
      · exact absurd (if_neg hb) z
  · have e := KX a o hk
    rw [ha] at e
    cases e
    exact main (fun _ => none) (fun _ => .inl rfl) (.inr ⟨_, its.toArray, _, hk, rfl, rfl, rfl, by rw [List.size_toArray, hi.length]; exact hl, by simpa using rv⟩) (fun b u z => nomatch z) (fun b z => absurd rfl z) fun z => absurd rfl z

theorem walk_g {l : PySem.W.OpenLaw} {n k : Nat} {q : Program} {loose : List Str} {XP : (Str → Option Value) → Heap → Prop} {YP : World → Heap → Prop} {d : DefRec} {K : Params → PySem.W.Frag} {sp : PySem.W.Frag → Sp} {x : Str}
    (hn : l.most = some n) (hn2 : n ≤ sizeLine) (hdf : d.params.defaults = []) (hr : Room k callerA)
    (hY : ∀ (wo : World) (h : Heap), YP wo h → (K wo.params).In h)
    (F : ∀ (wo : World) (mg : Str → Option Value) (fa : Addr) (h : Heap), (K wo.params).In h → h.Ns mainGlobals mg → mg d.name = some (.ref fa) →
      ∃ fd : FuncData, (∀ (st : Shared) (u : Value), BindsTo st fd ⟨[u], []⟩ [(x, u)]) ∧
        ∀ ba : Heap, (K wo.params).In ba → ba.Ns mainGlobals mg → ba.NoDigits → GFn l.prog wo (K wo.params) mg ba CX0 k fa fd [x] (sp (K wo.params)))
    (hsp : ∀ (K : PySem.W.Frag) (Hx : Hp) (a : Addr) (ns : List Int), ns.length ≤ n → Only Hx → SqL K Hx a (ns.map V.int) → sp K [.ref a] Hx (fun v _ => v = .bl true) E0) :
    PySem.W.WalkO q loose XP YP l.row.toRowW d [] (fun f vs => PySem.call f vs) := by
  refine Att.attach_call hn hdf fun w s₀ s₁ mg mb fa o pm cd doc a vs ns G Y ho hd hcd hmg hobj hints hlen hg => ?_
  have KX := hY w _ Y
  obtain ⟨fd, hb, hF⟩ := F w mg fa _ KX G.T.g hmg
  exact law_g KX G.T.g G.T.b G.T.builtins G.T.nolimit G.T.nodigits hg hobj hints (Nat.le_trans hlen hn2) hr hF hb fun Hx hO hS => hsp _ Hx a ns hlen hO hS
end SG

/-! repr of data at any depth, with ints of up to 4300 figures. -/
namespace SG
open PySem PySem.Spec PyProof.Rows L2

mutual
/-- data whose ints can be told -/
def tellable : PyData → Bool
  | .int i => decide (i.natAbs < 10 ^ 4300)
  | .list xs => tellableAll xs
  | .tuple xs => tellableAll xs
  | .dict _ => false
  | .none => true
  | .bool _ => true
  | .str _ => true
def tellableAll : List PyData → Bool
  | [] => true
  | x :: xs => tellable x && tellableAll xs
end

section
variable {pr : Program} {wo : World} {B : Around} {Er : Value → Shared → Prop} {st : Shared}
theorem int_told {i : Int} {t : Tok} {Q : Value → Shared → Prop} (hn : st.heap.NoDigits) (hi : i.natAbs < 10 ^ 4300) (hq : Q (.str (toString i) st.toks) { st with toks := st.toks + 1 }) :
    wpAny (model pr wo) B (call (.builtin "int.__repr__") [.int i t]) Q Er st := by
  refine wpAny_call_entry F.slot_int_repr (typeIs_int st i t) F.entry_int_repr ?_ (F.args_int_repr_1 _)
  unfold Builtin.«int.__repr__»
  show wpAny _ _ (Builtin.overDigitLimit? i >>= _) _ _ st
  exact wpAny_bind (overDigitLimit_any hn (fun h => wpAny_bind (wpAny_mkStr (wpAny_pure ⟨_, rfl, hq⟩) (int_text_fits10 h))) fun h => absurd hi (Nat.not_lt.mpr h))
theorem int_shown {i : Int} {t : Tok} {Q : Value → Shared → Prop} (hu : B.units < cLine) (hn : st.heap.NoDigits) (hi : i.natAbs < 10 ^ 4300) (hq : Q (.str (toString i) st.toks) { st with toks := st.toks + 1 }) :
    wpAny (model pr wo) B (pyReprObj (.int i t)) Q Er st :=
  wpAny_pyReprObj_slot hu (typeIs_int _ i t) F.slot_int_repr.toG (int_told hn hi ⟨_, _, rfl, hq⟩)
theorem int_repr {i : Int} {t : Tok} {Q : Value → Shared → Prop} (hu : B.units + 1 < cLine) (hn : st.heap.NoDigits) (hi : i.natAbs < 10 ^ 4300) (hq : Q (.str (toString i) st.toks) { st with toks := st.toks + 1 }) :
    wpAny (model pr wo) B (call (.builtin "repr") [.int i t]) Q Er st :=
  call_repr_slot hu (typeIs_int _ i t) F.slot_int_repr.toG (int_told hn hi ⟨_, _, rfl, hq⟩)
theorem reprK_int {as : List Addr} {h₀ : Heap} {i : Int} {t : Tok} (hn : h₀.NoDigits) (hi : i.natAbs < 10 ^ 4300) (d : Nat) : ReprK pr wo as h₀ d (.int i t) (toString i) := by
  intro base hb A g E s Q hg hcl hu hk hQ
  rw [pyReprUnder_leaf (v := .int i t) (by omega) (fun _ e => nomatch e)]
  unfold pyRepr
  exact wpAny_bind (int_shown (by omega) (hn.keeps hk) hi (wpAny_pure (hQ s.heap _ fun _ _ e => e)))
mutual
theorem reprK_any {h₀ : Heap} (hn : h₀.NoDigits) : ∀ {v : Value} {d : PyData} {as : List Addr}, Reads h₀ v d as → tellable d = true → d.shown.length ≤ sizeLine →
    ∃ bs, ReadAtMost h₀ d.depth bs ∧ ReprK pr wo bs h₀ d.depth v d.shown := by
  intro v d as r ht hz
  cases r with
  | none => exact ⟨[], (fun _ h => nomatch h), by simp only [PyData.shown]; exact .of_is ReprIs.none _ _ _⟩
  | bool b => exact ⟨[], (fun _ h => nomatch h), by simp only [PyData.shown]; exact .of_is (ReprIs.bool b) _ _ _⟩
  | str x t => exact ⟨[], (fun _ h => nomatch h), by simp only [PyData.shown] at hz ⊢; exact .of_is (ReprIs.str x t hz) _ _ _⟩
  | int i t => exact ⟨[], (fun _ h => nomatch h), by simp only [PyData.shown]; exact reprK_int hn (of_decide_eq_true (by simpa only [tellable] using ht)) _⟩
  | list q1 q2 q3 q4 =>
    rename_i a o arr n xs bs₀
    have hz2 : (listText (PyData.shownAll xs)).length ≤ sizeLine := by simpa only [PyData.shown] using hz
    obtain ⟨bs, rb, kb⟩ := reprAllK_any hn q4 (by simpa [tellable] using ht) fun t m => Nat.le_trans (listText_mem_le m) hz2
    have whole : Reads h₀ (.ref a) (.list xs) _ := .list q1 q2 q3 q4
    refine ⟨a :: bs, ReadAtMost.cons whole (by simp only [PyData.depth]; omega) rb, ?_⟩
    have notIn : a ∉ bs := not_mem_of_deeper whole (by simp only [PyData.depth]; omega) rb
    simp only [PyData.depth, PyData.shown]
    rcases arr with ⟨_ | ⟨y, l⟩⟩
    · cases (show ReadsAll h₀ [] xs _ from q4)
      simp only [PyData.shownAll, listText_nil]
      exact ReprK.listEmpty q1 q2 q3
    · exact ReprK.list q1 q2 q3 notIn (by simpa using kb.length_eq) fun i y e => kb.item i y (by simpa using e)
  | tuple q1 q2 q3 q4 =>
    rename_i a o arr n xs
    have hz2 : (tupleText (PyData.shownAll xs)).length ≤ sizeLine := by simpa only [PyData.shown] using hz
    obtain ⟨bs, rb, kb⟩ := reprAllK_any hn q4 (by simpa [tellable] using ht) fun t m => Nat.le_trans (tupleText_mem_le m) hz2
    have whole : Reads h₀ (.ref a) (.tuple xs) _ := .tuple q1 q2 q3 q4
    refine ⟨a :: bs, ReadAtMost.cons whole (by simp only [PyData.depth]; omega) rb, ?_⟩
    have notIn : a ∉ bs := not_mem_of_deeper whole (by simp only [PyData.depth]; omega) rb
    simp only [PyData.depth, PyData.shown]
    exact ReprK.tuple q1 q2 q3 notIn kb
  | dict => simp [tellable] at ht
theorem reprAllK_any {h₀ : Heap} (hn : h₀.NoDigits) : ∀ {vs : List Value} {ds : List PyData} {as : List Addr}, ReadsAll h₀ vs ds as → tellableAll ds = true → (∀ t ∈ PyData.shownAll ds, t.length ≤ sizeLine) →
    ∃ bs, ReadAtMost h₀ (PyData.depthAll ds) bs ∧ ReprAllK pr wo bs h₀ (PyData.depthAll ds) vs (PyData.shownAll ds) := by
  intro vs ds as r ht hz
  cases r with
  | nil => exact ⟨[], (fun _ h => nomatch h), by simp only [PyData.shownAll]; exact .nil⟩
  | cons q1 q2 =>
    rename_i v vs d ds as₁ as₂
    have ht2 : tellable d = true ∧ tellableAll ds = true := by simpa [tellableAll] using ht
    obtain ⟨c1, rc1, k1⟩ := reprK_any hn q1 ht2.1 (hz _ (by simp only [PyData.shownAll]; exact List.mem_cons_self))
    obtain ⟨c2, rc2, k2⟩ := reprAllK_any hn q2 ht2.2 fun t m => hz t (by simp only [PyData.shownAll]; exact List.mem_cons_of_mem _ m)
    refine ⟨c1 ++ c2, (rc1.mono ?_).append (rc2.mono ?_), ?_⟩
    · simp only [PyData.depthAll]; exact Nat.le_max_left _ _
    · simp only [PyData.depthAll]; exact Nat.le_max_right _ _
    · simp only [PyData.depthAll, PyData.shownAll]
      exact .cons ((k1.more fun b m => List.mem_append_left _ m).level_le (Nat.le_max_left _ _)) (k2.more_le (fun b m => List.mem_append_right _ m) (Nat.le_max_right _ _))
end
/-- repr of what is no leaf -/
theorem repr_ref {h₀ : Heap} {a : Addr} {d : PyData} {as : List Addr} {Q : Value → Shared → Prop} (hn : h₀.NoDigits) (r : Reads h₀ (.ref a) d as) (ht : tellable d = true) (hz : d.shown.length ≤ sizeLine)
    (hg : B.guards = some []) (hu : B.units + (d.depth + 1) < cLine) (hk : ∀ b o, h₀.get? b = some o → st.heap.get? b = some o)
    (hQ : ∀ h2 u tk, (∀ b o, st.heap.get? b = some o → h2.get? b = some o) → Q (.str d.shown u) { st with heap := h2, toks := tk }) :
    wpAny (model pr wo) B (call (.builtin "repr") [.ref a]) Q Er st := by
  cases r with
  | list q1 q2 q3 q4 =>
    rename_i o arr n xs bs₀
    have whole : Reads h₀ (.ref a) (.list xs) _ := .list q1 q2 q3 q4
    simp only [PyData.depth] at hu
    simp only [PyData.shown] at hQ hz
    obtain ⟨bs, rb, kb⟩ := reprAllK_any (pr := pr) (wo := wo) hn q4 (by simpa [tellable] using ht) fun t m => Nat.le_trans (listText_mem_le m) hz
    have notIn : a ∉ bs := not_mem_of_deeper whole (by simp only [PyData.depth]; omega) rb
    refine call_repr_slot (by omega) ⟨o, hk _ _ q1, q2⟩ F.slot_list_repr.toG ?_
    rcases arr with ⟨_ | ⟨y, l⟩⟩
    · cases (show ReadsAll h₀ [] xs _ from q4)
      simp only [PyData.shownAll, listText_nil] at hQ
      exact call_list_repr_empty ⟨o, hk _ _ q1, q2⟩ (hk _ _ q1) q3 ⟨_, _, rfl, hQ st.heap _ _ fun _ _ e => e⟩
    · exact call_list_reprK q1 q2 q3 notIn (by simpa using kb.length_eq) (fun i y e => kb.item i y (by simpa using e)) hg (fun b _ => Clear.nil b) (by show B.units + 1 + _ < _; omega) hk (fun h2 u tk q => ⟨_, _, rfl, hQ h2 u tk q⟩) hz
  | tuple q1 q2 q3 q4 =>
    rename_i o arr n xs
    have whole : Reads h₀ (.ref a) (.tuple xs) _ := .tuple q1 q2 q3 q4
    simp only [PyData.depth] at hu
    simp only [PyData.shown] at hQ hz
    obtain ⟨bs, rb, kb⟩ := reprAllK_any (pr := pr) (wo := wo) hn q4 (by simpa [tellable] using ht) fun t m => Nat.le_trans (tupleText_mem_le m) hz
    have notIn : a ∉ bs := not_mem_of_deeper whole (by simp only [PyData.depth]; omega) rb
    refine call_repr_slot (by omega) ⟨o, hk _ _ q1, q2⟩ F.slot_tuple_repr ?_
    exact call_tuple_reprK q1 q2 q3 notIn kb hg (fun b _ => Clear.nil b) (by show B.units + 1 + _ < _; omega) hk (fun h2 u tk q => ⟨_, _, rfl, hQ h2 u tk q⟩) hz
  | dict => simp [tellable] at ht
/-- repr of the empty dict -/
theorem repr_dict0 {a : Addr} {o : Obj} {n : Nat} {Q : Value → Shared → Prop} (q1 : st.heap.get? a = some o) (q2 : o.cls = .type "dict") (q3 : o.data = .dict #[] n) (hs : (a == sysModules) = false)
    (hg : B.guards = some []) (hu : B.units + 2 < cLine)
    (hQ : ∀ h2 u tk, (∀ b o, st.heap.get? b = some o → h2.get? b = some o) → Q (.str "{}" u) { st with heap := h2, toks := tk }) :
    wpAny (model pr wo) B (call (.builtin "repr") [.ref a]) Q Er st := by
  have r : Reads st.heap (.ref a) (.dict []) ([a] ++ []) := .dict (as := []) (bs := []) q1 q2 q3 .nil .nil
  refine repr_of_reads' (d := .dict []) r rfl (fun _ m => ?_) hg (by show B.units + (PyData.depth (.dict []) + 1) < _; simp only [PyData.depth, PyData.depthKv]; omega) (fun _ _ e => e) ?_ (by decide +kernel)
  · have e : sysModules = a := by simpa using m
    rw [e] at hs
    simp at hs
  · have e : PyData.shown (.dict []) = "{}" := by decide +kernel
    rw [e]
    exact hQ
end

section
variable {X : Cx}
/-- no limit of its own was put to the figures of ints -/
theorem digs {pins : List (Addr × Obj)} {σ : L2.St} {Hx : Hp} {st : Shared} (hn : X.base.NoDigits) (I : Inv X pins σ Hx st) : st.heap.NoDigits := hn.keeps I.bk
def rRepr (K : PySem.W.Frag) : List V → Hp → VK → Prop := fun xs Hx R => ∃ x, xs = [x] ∧
  ((∃ d, Dp K Hx x d ∧ tellable d = true ∧ d.depth ≤ 60 ∧ d.shown.length ≤ sizeLine ∧ R (.str d.shown) Hx) ∨ (∃ a, x = .ref a ∧ Hx a = some (.dK []) ∧ R (.str "{}") Hx))
theorem call_reprG (hn : X.base.NoDigits) (hg : X.A.guards = some []) {k : Nat} (hr : Room k X.A) : CallR X (.builtin "repr") (rRepr X.K) := by
  intro pins st σ Hx xs us R I rv h
  obtain ⟨x, rfl, h⟩ := h
  obtain ⟨u, rfl, rx⟩ : ∃ u, us = [u] ∧ RelV x u := by
    cases rv with
    | cons a b => cases b; exact ⟨_, rfl, a⟩
  have hu := hr.units
  rcases h with ⟨d, hd, ht, hdep, hz, q⟩ | ⟨a, rfl, ha, q⟩
  · cases x with
    | ref a =>
      obtain ⟨as, r⟩ := Dp.reads I d (.ref a) u hd rx
      obtain rfl : u = Value.ref a := rx
      exact repr_ref (digs hn I) r ht hz hg (by omega) (fun _ _ e => e) fun h2 u tk hk => ⟨.str _, Hx, I.kept (t' := tk) hk, ⟨_, rfl⟩, q⟩
    | int i =>
      obtain ⟨t, rfl⟩ := rx
      cases hd
      simp only [PyData.shown] at q
      exact int_repr (by omega) (digs hn I) (of_decide_eq_true (by simpa only [tellable] using ht)) ⟨.str _, Hx, I.tok _, ⟨_, rfl⟩, q⟩
    | str y =>
      obtain ⟨t, rfl⟩ := rx
      cases hd
      simp only [PyData.shown] at q hz
      exact PySem.P.repr_of_str ⟨.str _, Hx, I.tok _, ⟨_, rfl⟩, q⟩ hz
    | bl b =>
      obtain rfl : u = Value.bool b := rx
      cases hd
      simp only [PyData.shown] at q
      exact PySem.P.repr_of_bool ⟨.str _, Hx, I.tok _, ⟨_, rfl⟩, q⟩
    | non =>
      obtain rfl : u = Value.none := rx
      cases hd
      simp only [PyData.shown] at q
      exact PySem.P.repr_of_none ⟨.str _, Hx, I.tok _, ⟨_, rfl⟩, q⟩
    | byt b => cases hd
    | flt b => cases hd
    | ty b => cases hd
  · obtain rfl : u = Value.ref a := rx
    obtain ⟨_, hs, vs, kv, o, es, ep, e1, e2, e3, e4, e5, _⟩ := I.hok a _ ha
    cases kv
    have e6 : es = #[] := by
      cases es with
      | mk l => cases l with
        | nil => rfl
        | cons y l => cases e5
    subst e6
    exact repr_dict0 e1 e2.1 e3 hs hg (by omega) fun h2 u tk hk => ⟨.str _, Hx, I.kept (t' := tk) hk, ⟨_, rfl⟩, q⟩
end
end SG

/-! enumerate of a tuple. -/
namespace SG
open PySem PySem.Spec PyProof.Rows L2

set_option maxHeartbeats 1000000 in
theorem meets_enum1 {v : Value} {o : Obj} {Ho : Heap → Prop} (B : Begins v o Ho) :
    Meets (Builtin.«enumerate.__new__» ⟨[.type "enumerate", v], []⟩) (fun _ R st => Ho st.heap ∧
      R (.ok (.ret (.ref (st.heap.push o).objs.size))) { st with heap := (st.heap.push o).push { cls := .type "enumerate", data := .fields #[.none, .bool false, .ref st.heap.objs.size, rawInt 0, .none, .none] } }) :=
  .of_wp fun prog w A R st h => by
    obtain ⟨hp, g, d, tk, os⟩ := st
    obtain ⟨h1, h⟩ := h
    have hsub := sub_enumerate
    have it1 : ∀ {A' : Around} {E : Value → Shared → Prop} {Q : Value → Shared → Prop}, Q (.ref hp.objs.size) ⟨hp.push o, g, d, tk, os⟩ → wpAny (model prog w) A' (pyIter v) Q E ⟨hp, g, d, tk, os⟩ :=
      fun q => B.iter prog w _ _ ⟨hp, g, d, tk, os⟩ _ h1 q
    wp_walk using it1
    refine wpAny_stack_any fun stk => wpAny_pure ?_
    split
    · rename_i c _ _ _ _ _
      cases (c == Value.type "enumerate")
      · wp_walk using it1
        exact ⟨_, rfl, h⟩
      · wp_walk using it1
        exact ⟨_, rfl, h⟩
    · wp_walk using it1
      exact ⟨_, rfl, h⟩
section
variable {prog : Program} {w : World} {A : Around} {E : Value → Shared → Prop} {st : Shared}
theorem enum1_begins {v : Value} {o : Obj} {Ho : Heap → Prop} {Q : Value → Shared → Prop} (B : Begins v o Ho) (h1 : Ho st.heap)
    (h : ∀ h2, IsEnum h2 (st.heap.objs.size + 1) st.heap.objs.size 0 .none → h2.get? st.heap.objs.size = some o → h2.objs.size = st.heap.objs.size + 2 →
      (∀ b u, st.heap.get? b = some u → h2.get? b = some u) → Q (.ref (st.heap.objs.size + 1)) { st with heap := h2 }) :
    wpAny (model prog w) A (call (.type "enumerate") [v]) Q E st := by
  refine callType_new F.called_enumerate (by decide) (F.typeCall_enumerate_1 _) (F.newCall_enumerate_1 _) (fun obj => F.args_object_init_2 obj _) F.entry_enumerate_new (meets_enum1 B) ⟨h1, ?_⟩
  have hz : (st.heap.push o).objs.size = st.heap.objs.size + 1 := Heap.size_push ..
  show _ ∧ _
  rw [hz]
  have he : IsEnum ((st.heap.push o).push { cls := .type "enumerate", data := .fields #[.none, .bool false, .ref st.heap.objs.size, rawInt 0, .none, .none] }) (st.heap.objs.size + 1) st.heap.objs.size 0 .none := by
    have z := Heap.get?_push_size (st.heap.push o) (o := { cls := .type "enumerate", data := .fields #[.none, .bool false, .ref st.heap.objs.size, rawInt 0, .none, .none] }) rfl
    rw [hz] at z
    exact z
  exact ⟨⟨_, he, rfl⟩, h _ he (Heap.get?_push_of_some _ (Heap.get?_push_size _ B.free)) (by rw [Heap.size_push, hz]) fun b u x => Heap.get?_push_of_some _ (Heap.get?_push_of_some _ x)⟩
end

/-- the tuple at a, each item in a new pair -/
def IteT (K : PySem.W.Frag) (a : Addr) : It :=
  ⟨fun i Hx => ∃ (xs : List V) (x : V), SqT K Hx a xs ∧ xs[i]? = some x, fun i Hx v H2 => ∃ T x, v = .ref T ∧ Hx T = none ∧ H2 = upd Hx T (.tup [.int (i : Nat), x]) ∧ ∀ xs, SqT K Hx a xs → xs[i]? = some x, fun i Hx => ∃ xs : List V, SqT K Hx a xs ∧ xs.length ≤ i⟩
theorem turn_enumT {P : Program} {w : World} {K : PySem.W.Frag} {elts : List Expr} {kk : Nat} {tpos : Pos} (a e it : Addr) :
    Turn P w K (.Tuple elts kk tpos) (IteT K a) [e, it] e (fun i h => (∃ old, IsEnum h e it ((i : Nat) : Int) old) ∧ h.IsTupleIter it a i ∧ e ≠ it ∧ a ≠ it ∧ a ≠ e) where
  mem := by simp
  obj := fun i h q b hb => by
    obtain ⟨⟨old, he⟩, ⟨o, ho, hc, hd⟩, _⟩ := q
    rcases (show b = e ∨ b = it by simpa using hb) with z | z
    · rw [z]; exact ⟨_, he, fun v q => nomatch q⟩
    · rw [z]; exact ⟨o, ho, fun v q => by rw [hd] at q; cases q⟩
  keep := fun i h h2 q k => by
    obtain ⟨⟨old, he⟩, hi, hne⟩ := q
    exact ⟨⟨old, k e (by simp) _ he⟩, hi.at fun o q => k it (by simp) o q, hne⟩
  item := by
    intro X hP hw hK hc i pins st σ Hx E I hf q hg
    subst hP hw hK
    obtain ⟨⟨old, he⟩, hit, hne, n1, n2⟩ := q
    obtain ⟨xs, x, hq, hx⟩ := hg
    obtain ⟨its, rv, p, hz⟩ := I.tuple hq
    obtain ⟨u, hu, ru⟩ := rv.get hx
    have hel : e < st.heap.objs.size := Heap.lt_size he
    have hil : it < st.heap.objs.size := by obtain ⟨_, z, _⟩ := hit; exact Heap.lt_size z
    have hi : i < its.toArray.size := by
      have z := (List.getElem?_eq_some_iff.mp hu).1
      simpa using z
    refine wpAny_pyNext_enum_itemD (Draws.tuple (prog := X.prog) (w := X.w) (A := X.A.in1) (I.ok.hd hc) it a n1 its.toArray) he ⟨hit, p⟩ hi hne (by simp [hne, n2.symm]) fun y h1 tk hy ho hs1 hT hsz hk => ?_
    obtain rfl : y = u := by
      rw [show its.toArray[i]? = some u by simpa using hu] at hy
      exact (Option.some.inj hy).symm
    refine ⟨_, rfl, wpAny_letOwnedTupleGo_enum (s := { st with heap := h1, toks := tk + 1 }) ho fun h2 he2 sb => ?_⟩
    have hT2 : h2.get? st.heap.objs.size = some { cls := .type "tuple", data := .seq #[.int i tk, y] } := (sb.2 _ (Nat.ne_of_gt hel)).trans hT
    have new : ObjOk X.prog X.w (upd Hx st.heap.objs.size (.tup [.int (i : Nat), x])) h2 st.heap.objs.size (.tup [.int (i : Nat), x]) :=
      ⟨by show 2 ≤ sizeLine; decide, [.int i tk, y], .cons ⟨_, rfl⟩ (.cons ru .nil), ⟨_, hT2, rfl, _, rfl⟩⟩
    have I1 : L2.Inv X pins σ (upd Hx st.heap.objs.size (.tup [.int (i : Nat), x])) { st with heap := h2, toks := tk + 1 } :=
      I.turnedNew (ch := [e, it]) (fun b ob hb z => (sb.2 b (fun z => hb (by simp [z]))).trans (hk b ob (fun z => hb (by simp [z])) (fun z => hb (by simp [z])) z)) hf (Nat.le_refl _) new
    refine ⟨.ref st.heap.objs.size, _, I1, rfl, ⟨_, x, rfl, I.hok.fresh (Nat.le_refl _), rfl, fun ys hy => by rw [I.tuple_inj hy hq]; exact hx⟩, ⟨⟨y, ?_⟩, hs1.1.at fun o z => (sb.2 it (Ne.symm hne)).trans z, hne, n1, n2⟩, fun b hb => ?_⟩
    · rw [show ((i + 1 : Nat) : Int) = (i : Int) + 1 by omega]
      exact he2
    · have hb2 : b < st.heap.objs.size := by
        rcases (show b = e ∨ b = it by simpa using hb) with z | z
        · rw [z]; exact hel
        · rw [z]; exact hil
      rw [upd_ne (Nat.ne_of_lt hb2)]
      exact (hf b hb).1
  done := by
    intro X hP hw hK hc i pins st σ Hx E I hf q hg
    subst hP hw hK
    obtain ⟨⟨old, he⟩, hit, hne, n1, n2⟩ := q
    obtain ⟨xs, hq, hx⟩ := hg
    obtain ⟨its, rv, p, hz⟩ := I.tuple hq
    obtain ⟨f0, f1, f2, f3, f4, f5⟩ := hf it (by simp)
    have hl := rv.length
    have D : Draws X.prog X.w X.A.in1 it [it, a] i (fun _ _ => True) (fun j h => j = i ∧ h.IsTupleIter it a i ∧ h.IsTuple a its.toArray) :=
      { live := fun _ _ z => by obtain ⟨_, ⟨o, ho, _⟩, _⟩ := z; exact ⟨o, ho⟩
        frame := fun _ _ _ z hk => ⟨z.1, z.2.1.at fun o e => hk it (by simp) o e, z.2.2.at fun o e => hk a (by simp) o e⟩
        item := fun j s Q E hj z => absurd z.1 (Nat.ne_of_lt hj)
        done := fun s Q E z hE => wpAny_nextOf_tuple_end (I.ok.hd hc) z.2.1 z.2.2 (by simp; omega) hE }
    exact wpAny_pyNext_enum_endD D he ⟨rfl, hit, p⟩ fun h2 eb => ⟨rfl, I.turned (t' := st.toks) (fun b o hb q => eb b o hb q) f0 f1 f3 f4 f5⟩
  self := fun A i st Q E q h => by
    obtain ⟨⟨_, he⟩, _⟩ := q
    exact wpAny_pyIter_enum he h
def iEnumT (K : PySem.W.Frag) (ta : TA) : TI := fun σ Hx R => ta σ Hx fun vs H1 => ∃ a xs, vs = [.ref a] ∧ SqT K H1 a xs ∧ R (IteT K a) H1
theorem pi_enumT {X : Cx} {e : Expr} {ta : TA} {p pos tpos : Pos} {elts : List Expr} {kk : Nat} (hg : Gl X "enumerate") (hm : X.mg "enumerate" = none) (ha : PA X [e] ta) (hs : starEach [e] X.env = [(false, eval e X.env)] := by rfl) :
    PI X (.Tuple elts kk tpos) (.Call (.Name "enumerate" p) [e] [] pos) (iEnumT X.K ta) := by
  refine ⟨fun pins st σ Hx R I h => ?_⟩
  refine Call_ (ld_blt I hg hm boot_enumerate (PyProof.Rows.callWith_type1 (thn (ha.run pos pins st σ Hx _ I h) ?_) hs rfl))
  rintro us s1 ⟨vs, H1, I1, r1, a, xs, rfl, hq, q⟩
  obtain ⟨u, rfl, ru⟩ : ∃ u, us = [u] ∧ RelV (.ref a) u := by
    cases r1 with
    | cons x y => cases y; exact ⟨_, rfl, x⟩
  obtain rfl : u = Value.ref a := ru
  obtain ⟨its, rv, p2, hz⟩ := I1.tuple hq
  have al : a < s1.heap.objs.size := p2.lt
  refine enum1_begins (begins_tuple a its.toArray) p2 fun h2 he hit hsz hk => wpAny_pyIter_enum he ?_
  have I2 : L2.Inv X pins σ H1 { s1 with heap := h2 } := I1.kept (t' := s1.toks) hk
  refine ⟨s1.heap.objs.size + 1, [s1.heap.objs.size + 1, s1.heap.objs.size], _, _, H1, rfl, I2, turn_enumT a (s1.heap.objs.size + 1) s1.heap.objs.size,
    ⟨⟨.none, he⟩, ⟨_, hit, rfl, rfl⟩, Nat.succ_ne_self _, Nat.ne_of_lt al, Nat.ne_of_lt (Nat.lt_succ_of_lt al)⟩, fun b hb => ?_, q⟩
  have hle : s1.heap.objs.size ≤ b := by
    rcases (show b = s1.heap.objs.size + 1 ∨ b = s1.heap.objs.size by simpa using hb) with z | z
    · rw [z]; exact Nat.le_succ _
    · rw [z]; exact Nat.le_refl _
  exact I1.fpOk hle (I1.hok.fresh hle)
end SG

/-! The deck that laws draw from; what stays when it is drawn from. -/
namespace SG
open PySem PySem.Spec PyProof.Rows L2

abbrev kC : Key := Sum.inr ("cells" : Str)
abbrev kM : Key := Sum.inr ("mixed" : Str)
abbrev kD : Key := Sum.inr ("draws" : Str)
theorem kne1 : ¬ kC = kM := by decide +kernel
theorem kne2 : ¬ kC = kD := by decide +kernel
theorem kne3 : ¬ kM = kD := by decide +kernel
def deckO (l : Addr) (m n : Int) : List (Key × V) := [(kC, .ref l), (kM, .int m), (kD, .int n)]
theorem deck_cells (l : Addr) (m n : Int) : valV (deckO l m n) kC = some (.ref l) := valV_pos rfl
theorem deck_mixed (l : Addr) (m n : Int) : valV (deckO l m n) kM = some (.int m) := (valV_neg kne1).trans (valV_pos rfl)
theorem deck_draws (l : Addr) (m n : Int) : valV (deckO l m n) kD = some (.int n) := (valV_neg kne2).trans ((valV_neg kne3).trans (valV_pos rfl))
theorem deck_put (l : Addr) (m n k : Int) : putK (deckO l m n) kD (.int k) = deckO l m k := by
  have e : (decide (kD = kD)) = true := decide_eq_true rfl
  show (if (decide (kC = kD) || (decide (kM = kD) || (decide (kD = kD) || false))) = true then [if kC = kD then (kC, V.int k) else (kC, V.ref l), if kM = kD then (kM, V.int k) else (kM, V.int m), if kD = kD then (kD, V.int k) else (kD, V.int n)] else _) = _
  rw [decide_eq_false kne2, decide_eq_false kne3, e, if_neg kne2, if_neg kne3, if_pos rfl]
  rfl
theorem deck_made (l : Addr) (m n : Int) : mergeK [] (deckO l m n) = deckO l m n := by
  have e1 : putK ([] : List (Key × V)) kC (.ref l) = [(kC, .ref l)] := rfl
  have e2 : putK [(kC, V.ref l)] kM (.int m) = [(kC, .ref l), (kM, .int m)] := by
    show (if (decide (kC = kM) || false) = true then _ else [(kC, V.ref l)] ++ [(kM, V.int m)]) = _
    rw [decide_eq_false kne1]
    rfl
  have e3 : putK [(kC, V.ref l), (kM, V.int m)] kD (.int n) = deckO l m n := by
    show (if (decide (kC = kD) || (decide (kM = kD) || false)) = true then _ else [(kC, V.ref l), (kM, V.int m)] ++ [(kD, V.int n)]) = _
    rw [decide_eq_false kne2, decide_eq_false kne3]
    rfl
  show putK (putK (putK [] kC (.ref l)) kM (.int m)) kD (.int n) = _
  rw [e1, e2, e3]

/-- a deck stands at d, its cells at l; it was asked at most c times -/
def Deck (H : Hp) (d l : Addr) (c : Nat) : Prop :=
  ∃ (cs : List Int) (m n : Int), H d = some (.dK (deckO l m n)) ∧ H l = some (.lst (cs.map V.int)) ∧ (0 ≤ m ∧ m < 2147483648) ∧ (0 ≤ n ∧ n ≤ (c : Int)) ∧ cs.length ≤ 63
/-- all stays but the deck and its cells -/
def Kept (d l : Addr) (H H2 : Hp) : Prop := ∀ b o, H b = some o → b ≠ d → b ≠ l → H2 b = some o
theorem Kept.refl (d l : Addr) (H : Hp) : Kept d l H H := fun _ _ e _ _ => e
theorem Kept.trans {d l : Addr} {H H1 H2 : Hp} (a : Kept d l H H1) (b : Kept d l H1 H2) : Kept d l H H2 := fun c o e h1 h2 => b c o (a c o e h1 h2) h1 h2
theorem Kept.of {d l : Addr} {H H1 : Hp} (a : Same H H1) : Kept d l H H1 := fun c o e _ _ => a c o e
theorem Deck.mono {H : Hp} {d l : Addr} {c e : Nat} (D : Deck H d l c) (h : c ≤ e) : Deck H d l e := by
  obtain ⟨cs, m, n, h1, h2, h3, h4, h5⟩ := D
  exact ⟨cs, m, n, h1, h2, h3, ⟨h4.1, by omega⟩, h5⟩
theorem Deck.same {H H1 : Hp} {d l : Addr} {c : Nat} (D : Deck H d l c) (s : Same H H1) : Deck H1 d l c := by
  obtain ⟨cs, m, n, h1, h2, h3⟩ := D
  exact ⟨cs, m, n, s _ _ h1, s _ _ h2, h3⟩
theorem Deck.upd {H : Hp} {d l p : Addr} {c : Nat} {o : HO} (D : Deck H d l c) (hp : H p = none) : Deck (upd H p o) d l c := by
  obtain ⟨cs, m, n, h1, h2, h3⟩ := D
  exact ⟨cs, m, n, by rw [upd_ne (ne_of_none h1 hp)]; exact h1, by rw [upd_ne (ne_of_none h2 hp)]; exact h2, h3⟩
theorem same_new {H : Hp} {p : Addr} {o : HO} (h : H p = none) : Same H (upd H p o) := fun b x e => by
  rw [upd_ne (ne_of_none e h)]
  exact e
/-- tuples stay -/
theorem Kept.tup {K : PySem.W.Frag} {d l : Addr} {H H2 : Hp} {c : Nat} {a : Addr} {xs : List V} (k : Kept d l H H2) (D : Deck H d l c) (h : SqT K H a xs) : SqT K H2 a xs := by
  obtain ⟨cs, m, n, h1, h2, _⟩ := D
  rcases h with (h | ⟨o, h⟩) | h
  · exact .inl (.inl (k _ _ h (ne_of h h1 nofun) (ne_of h h2 nofun)))
  · exact .inl (.inr ⟨o, k _ _ h (ne_of h h1 nofun) (ne_of h h2 nofun)⟩)
  · exact .inr h
theorem sameT {K : PySem.W.Frag} {H H2 : Hp} {a : Addr} {xs : List V} (s : Same H H2) (h : SqT K H a xs) : SqT K H2 a xs := by
  rcases h with (h | ⟨o, h⟩) | h
  · exact .inl (.inl (s _ _ h))
  · exact .inl (.inr ⟨o, s _ _ h⟩)
  · exact .inr h
/-! ### ints as data -/
def dI (ns : List Int) : List PyData := ns.map PyData.int
theorem dpInts {K : PySem.W.Frag} {H : Hp} : ∀ ns : List Int, DpAll K H (ns.map V.int) (dI ns)
  | [] => .nil
  | n :: ns => .cons (.int n) (dpInts ns)
theorem layI : ∀ ns : List Int, PyData.canLayAll0 (dI ns) = true
  | [] => by simp [dI, PyData.canLayAll0]
  | n :: ns => by
    show PyData.canLayAll0 (PyData.int n :: dI ns) = true
    simp [PyData.canLayAll0, PyData.canLay0, layI ns]
theorem depI : ∀ ns : List Int, PyData.depthAll (dI ns) = 0
  | [] => by simp [dI, PyData.depthAll]
  | n :: ns => by
    show PyData.depthAll (PyData.int n :: dI ns) = 0
    simp [PyData.depthAll, PyData.depth, depI ns]
theorem shI (ns : List Int) : SeqAt.shaped (.list (dI ns)) = true := by
  simp [SeqAt.shaped, PyData.canLay0, PyData.depth, layI, depI]
theorem shTI (ns : List Int) : SeqAt.shaped (.tuple (dI ns)) = true := by
  simp [SeqAt.shaped, PyData.canLay0, PyData.depth, layI, depI]
theorem eqvI_nil : ∀ ns : List Int, PyData.eqv (.list (dI ns)) (.list []) = ns.isEmpty
  | [] => by simp [dI, PyData.eqv, PyData.eqvAll]
  | n :: ns => by
    show PyData.eqv (.list (PyData.int n :: dI ns)) (.list []) = false
    simp [PyData.eqv, PyData.eqvAll]
theorem dgCells {H : Hp} {d l : Addr} {m n : Int} (h : H d = some (.dK (deckO l m n))) : DGet H d (.str "cells") (some (.ref l)) := by
  have z := DGet.k (k := kC) h
  rw [deck_cells] at z
  exact z
theorem dgMixed {H : Hp} {d l : Addr} {m n : Int} (h : H d = some (.dK (deckO l m n))) : DGet H d (.str "mixed") (some (.int m)) := by
  have z := DGet.k (k := kM) h
  rw [deck_mixed] at z
  exact z
theorem dgDraws {H : Hp} {d l : Addr} {m n : Int} (h : H d = some (.dK (deckO l m n))) : DGet H d (.str "draws") (some (.int n)) := by
  have z := DGet.k (k := kD) h
  rw [deck_draws] at z
  exact z
theorem dpDraws {H : Hp} {d l : Addr} {m n : Int} (k : Int) (h : H d = some (.dK (deckO l m n))) : DPut H d (.str "draws") (.int k) (upd H d (.dK (deckO l m k))) := by
  have z := DPut.k (k := kD) (v := .int k) h (by show 3 < sizeLine; decide)
  rw [deck_put] at z
  exact z
theorem ifT {b : Bool} {A B : Prop} (h : b = true) (a : A) : if b = true then A else B := by
  rw [if_pos h]
  exact a
theorem ifF {b : Bool} {A B : Prop} (h : b = false) (a : B) : if b = true then A else B := by
  rw [h]
  exact iteF a
theorem mod_lo {a b : Int} (h : 0 < b) : 0 ≤ a % b := Int.emod_nonneg a (by omega)
theorem mod_hi {a b : Int} (h : 0 < b) : a % b < b := Int.emod_lt_of_pos a h
end SG

namespace SG
open PySem PySem.Spec PyProof.Rows L2

theorem Kept.lst {K : PySem.W.Frag} {d l : Addr} {H H2 : Hp} {c : Nat} {a : Addr} {xs : List V} (k : Kept d l H H2) (D : Deck H d l c) (hl : a ≠ l) (h : SqL K H a xs) : SqL K H2 a xs := by
  obtain ⟨cs, m, n, h1, h2, _⟩ := D
  rcases h with (h | ⟨o, h⟩) | h
  · exact .inl (.inl (k _ _ h (ne_of h h1 nofun) hl))
  · exact .inl (.inr ⟨o, k _ _ h (ne_of h h1 nofun) hl⟩)
  · exact .inr h
theorem Deck.ne {H : Hp} {d l p : Addr} {c : Nat} (D : Deck H d l c) (h : H p = none) : p ≠ d ∧ p ≠ l := by
  obtain ⟨cs, m, n, h1, h2, _⟩ := D
  exact ⟨(ne_of_none h1 h).symm, (ne_of_none h2 h).symm⟩
theorem wipe1 (σ : L2.St) (s : Nat) (x : Option V) : wipe ((wipe σ [s]).set s x) [s] = wipe σ [s] := by
  show (List.set (List.set (List.set σ s none) s x) s none) = List.set σ s none
  rw [List.set_set, List.set_set]
theorem yesI {A B : Hp → Prop} {σ : L2.St} {H : Hp} (h : A H) : tYes σ H (fun b H4 => if b = true then A H4 else B H4) := by
  show (if (true : Bool) = true then A H else B H)
  rw [if_pos rfl]
  exact h
/-- a list of ints that are drawn, turn by turn -/
theorem lc_draws {d l D : Addr} {c n s : Nat} {te : TE} {σ : L2.St} {H1 : Hp} {Qd : Hp → Prop} {B : Int → Prop} (D0 : Deck H1 d l c) (hD : H1 D = none) (hn : n ≤ 1000)
    (turn : ∀ (i : Nat) (H2 : Hp), i < n → Deck H2 d l (c + i) → Kept d l H1 H2 → ∀ R : VK, (∀ (x : Int) (H3 : Hp), B x → Deck H3 d l (c + i + 1) → Kept d l H2 H3 → R (.int x) H3) → te ((wipe σ [s]).set s (some (.int (0 + i)))) H2 R)
    (done : ∀ (xs : List Int) (H2 : Hp), xs.length = n → (∀ x ∈ xs, B x) → H2 D = some (.lst (xs.map V.int)) → Deck H2 d l (c + n) → Kept d l H1 H2 → Qd H2) :
    ∃ W : Nat → Nat → Hp → Prop, (∃ m, W 0 m (upd H1 D (.lst []))) ∧ ∀ i m H, W i m H →
      ((Itr 0 n).stop i H ∧ Qd H) ∨ ((Itr 0 n).go i H ∧ ∃ Nx : Hp → Prop, (∀ H2, Nx H2 → ∃ m2, m2 < m ∧ W (i + 1) m2 H2) ∧ ∀ x H2, (Itr 0 n).yld i H x H2 → gName s x (wipe σ [s]) H2 fun σ2 H3 => wipe σ2 [s] = wipe σ [s] ∧ tYes σ2 H3 fun b H4 =>
        if b = true then te σ2 H4 fun y H5 => ∃ acc, H5 D = some (.lst acc) ∧ acc.length < sizeLine ∧ Nx (upd H5 D (.lst (acc ++ [y]))) else Nx H4) := by
  obtain ⟨nd, nl⟩ := D0.ne hD
  refine lc_range (fun i H2 => ∃ xs : List Int, xs.length = i ∧ (∀ x ∈ xs, B x) ∧ H2 D = some (.lst (xs.map V.int)) ∧ Deck H2 d l (c + i) ∧ Kept d l H1 H2) ?_ ?_ ?_
  · exact ⟨[], rfl, (fun _ h => absurd h List.not_mem_nil), upd_same, D0.upd hD, .of (same_new hD)⟩
  · rintro i H2 hi ⟨xs, hx, hB, hD2, D2, k2⟩
    refine ⟨wipe1 _ _ _, ?_⟩
    refine yesI ?_
    refine turn i H2 hi D2 k2 _ fun x H3 hb D3 k3 => ⟨xs.map V.int, k3 _ _ hD2 nd nl, ?_, xs ++ [x], by simp [hx], fun y hy => ?_, ?_, ?_, ?_⟩
    · rw [List.length_map, hx]
      exact small1000 (by omega)
    · rcases List.mem_append.mp hy with h | h
      · exact hB y h
      · rw [List.mem_singleton.mp h]; exact hb
    · rw [upd_same, List.map_append]
      rfl
    · obtain ⟨cs, m, k, h1, h2, h3⟩ := D3
      exact ⟨cs, m, k, by rw [upd_ne nd.symm]; exact h1, by rw [upd_ne nl.symm]; exact h2, h3⟩
    · intro b o e h1 h2
      rw [upd_ne (ne_of_none e hD)]
      exact k3 _ _ (k2 _ _ e h1 h2) h1 h2
  · rintro H2 ⟨xs, hx, hB, hD2, D2, k2⟩
    exact done xs H2 hx hB hD2 D2 k2
end SG

namespace SG
open PySem PySem.Spec PyProof.Rows L2

/-- a comprehension over enumerate of a tuple -/
theorem lc_enumT {K : PySem.W.Frag} {a D : Addr} {xs : List V} {g : TG} {tt : TT} {te : TE} {vs : List Nat} {σ : L2.St} {H1 : Hp} {Qd : Hp → Prop} (Pv : Nat → Hp → Prop) (h0 : Pv 0 (upd H1 D (.lst []))) (hl : ∀ i H, i ≤ xs.length → Pv i H → SqT K H a xs)
    (hs : ∀ (i : Nat) (x : V) (H : Hp) (T : Addr), xs[i]? = some x → Pv i H → H T = none → g (.ref T) (wipe σ vs) (upd H T (.tup [.int (i : Nat), x])) fun σ2 H2 => wipe σ2 vs = wipe σ vs ∧ tt σ2 H2 fun b H3 =>
      if b = true then te σ2 H3 fun y H4 => ∃ acc, H4 D = some (.lst acc) ∧ acc.length < sizeLine ∧ Pv (i + 1) (upd H4 D (.lst (acc ++ [y]))) else Pv (i + 1) H3) (hd : ∀ H, Pv xs.length H → Qd H) :
    ∃ W : Nat → Nat → Hp → Prop, (∃ m, W 0 m (upd H1 D (.lst []))) ∧ ∀ i m H, W i m H →
      ((IteT K a).stop i H ∧ Qd H) ∨ ((IteT K a).go i H ∧ ∃ Nx : Hp → Prop, (∀ H2, Nx H2 → ∃ m2, m2 < m ∧ W (i + 1) m2 H2) ∧ ∀ x H2, (IteT K a).yld i H x H2 → g x (wipe σ vs) H2 fun σ2 H3 => wipe σ2 vs = wipe σ vs ∧ tt σ2 H3 fun b H4 =>
        if b = true then te σ2 H4 fun y H5 => ∃ acc, H5 D = some (.lst acc) ∧ acc.length < sizeLine ∧ Nx (upd H5 D (.lst (acc ++ [y]))) else Nx H4) := by
  refine ⟨fun i m H => m = xs.length - i ∧ i ≤ xs.length ∧ Pv i H, ⟨xs.length, by simp, Nat.zero_le _, h0⟩, ?_⟩
  rintro i m H ⟨rfl, hi, p⟩
  have q := hl i H hi p
  rcases Nat.lt_or_eq_of_le hi with hlt | rfl
  · refine .inr ⟨⟨xs, xs[i], q, by simp [hlt]⟩, Pv (i + 1), fun H2 p2 => ⟨xs.length - (i + 1), by omega, rfl, hlt, p2⟩, ?_⟩
    rintro x H2 ⟨T, x, rfl, hT, rfl, hx⟩
    exact hs i x H T (hx xs q) p hT
  · exact .inl ⟨⟨xs, q, Nat.le_refl _⟩, hd H p⟩
theorem wipe2 (σ : L2.St) (s1 s2 : Nat) (x y : Option V) : wipe (((wipe σ [s1, s2]).set s1 x).set s2 y) [s1, s2] = wipe σ [s1, s2] := by
  show List.set (List.set (List.set (List.set (List.set (List.set σ s2 none) s1 none) s1 x) s2 y) s2 none) s1 none = List.set (List.set σ s2 none) s1 none
  by_cases e : s1 = s2
  · subst e
    simp [List.set_set]
  · have z1 : List.set (List.set (List.set (List.set σ s2 none) s1 none) s1 x) s2 y = List.set (List.set (List.set σ s2 none) s1 x) s2 y := by rw [List.set_set]
    rw [z1]
    refine List.ext_getElem? fun i => ?_
    simp only [List.getElem?_set, List.length_set]
    split <;> split <;> rfl
  -- rw [List.set_set, List.set_comm x none e, List.set_set, List.set_comm none none (Ne.symm e), List.set_set]
theorem same_upd_of {H H2 : Hp} {p : Addr} {o : HO} (s : Same H H2) (h : H p = none) : Same H (upd H2 p o) := fun b x e => by
  rw [upd_ne (ne_of_none e h)]
  exact s _ _ e
/-- .. whose items are told ahead, and that makes new objects alone -/
theorem lc_enumS {K : PySem.W.Frag} {a D : Addr} {xs ys : List V} {te : TE} {s1 s2 : Nat} {σ : L2.St} {H1 : Hp} {Qd : Hp → Prop} (hn : xs.length ≤ 1000) (hD : H1 D = none) (hS : SqT K H1 a xs) (hy : ys.length = xs.length)
    (turn : ∀ (i : Nat) (x y : V) (H2 : Hp), xs[i]? = some x → ys[i]? = some y → Same H1 H2 → ∀ R : VK, (∀ H3, Same H2 H3 → R y H3) → te (((wipe σ [s1, s2]).set s1 (some (.int (i : Nat)))).set s2 (some x)) H2 R)
    (done : ∀ H2, Same H1 H2 → H2 D = some (.lst ys) → Qd H2) :
    ∃ W : Nat → Nat → Hp → Prop, (∃ m, W 0 m (upd H1 D (.lst []))) ∧ ∀ i m H, W i m H →
      ((IteT K a).stop i H ∧ Qd H) ∨ ((IteT K a).go i H ∧ ∃ Nx : Hp → Prop, (∀ H2, Nx H2 → ∃ m2, m2 < m ∧ W (i + 1) m2 H2) ∧ ∀ x H2, (IteT K a).yld i H x H2 → gTup K 2 (gCons (gName s1) (gCons (gName s2) gNil)) x (wipe σ [s1, s2]) H2 fun σ2 H3 => wipe σ2 [s1, s2] = wipe σ [s1, s2] ∧ tYes σ2 H3 fun b H4 =>
        if b = true then te σ2 H4 fun y H5 => ∃ acc, H5 D = some (.lst acc) ∧ acc.length < sizeLine ∧ Nx (upd H5 D (.lst (acc ++ [y]))) else Nx H4) := by
  refine lc_enumT (xs := xs) (fun i H2 => Same H1 H2 ∧ H2 D = some (.lst (ys.take i))) ⟨same_new hD, by rw [upd_same, List.take_zero]⟩ (fun i H2 _ p => sameT p.1 hS) ?_ ?_
  · rintro i x H2 T hx ⟨s, h2⟩ hT
    have hi : i < ys.length := by rw [hy]; exact (List.getElem?_eq_some_iff.mp hx).1
    have hyi : ys[i]? = some ys[i] := List.getElem?_eq_getElem hi
    refine ⟨T, _, rfl, .inl (.inl upd_same), rfl, _, _, rfl, _, _, rfl, rfl, wipe2 _ _ _ _ _, ?_⟩
    refine yesI ?_
    have s1 : Same H1 (upd H2 T (.tup [.int (i : Nat), x])) := s.trans (same_new hT)
    have hD2 : (upd H2 T (.tup [.int (i : Nat), x])) D = some (.lst (ys.take i)) := same_new hT _ _ h2
    refine turn i x _ _ hx hyi s1 _ fun H3 s3 => ⟨ys.take i, s3 _ _ hD2, ?_, same_upd_of (s1.trans s3) hD, ?_⟩
    · rw [List.length_take]
      exact small1000 (by omega)
    · rw [upd_same, List.take_add_one, hyi]
      rfl
  · rintro H2 ⟨s, h2⟩
    refine done H2 s ?_
    rw [h2, ← hy, List.take_length]
end SG

namespace SG
open PySem PySem.Spec PyProof.Rows L2
/-- a comprehension over a tuple, whose items are told ahead, and that makes new objects alone -/
theorem lc_tupS {K : PySem.W.Frag} {a D : Addr} {xs ys : List V} {te : TE} {s : Nat} {σ : L2.St} {H1 : Hp} {Qd : Hp → Prop} (hn : xs.length ≤ 1000) (hD : H1 D = none) (hS : SqT K H1 a xs) (hy : ys.length = xs.length)
    (turn : ∀ (i : Nat) (x y : V) (H2 : Hp), xs[i]? = some x → ys[i]? = some y → Same H1 H2 → ∀ R : VK, (∀ H3, Same H2 H3 → R y H3) → te ((wipe σ [s]).set s (some x)) H2 R)
    (done : ∀ H2, Same H1 H2 → H2 D = some (.lst ys) → Qd H2) :
    ∃ W : Nat → Nat → Hp → Prop, (∃ m, W 0 m (upd H1 D (.lst []))) ∧ ∀ i m H, W i m H →
      ((Itt K a).stop i H ∧ Qd H) ∨ ((Itt K a).go i H ∧ ∃ Nx : Hp → Prop, (∀ H2, Nx H2 → ∃ m2, m2 < m ∧ W (i + 1) m2 H2) ∧ ∀ x H2, (Itt K a).yld i H x H2 → gName s x (wipe σ [s]) H2 fun σ2 H3 => wipe σ2 [s] = wipe σ [s] ∧ tYes σ2 H3 fun b H4 =>
        if b = true then te σ2 H4 fun y H5 => ∃ acc, H5 D = some (.lst acc) ∧ acc.length < sizeLine ∧ Nx (upd H5 D (.lst (acc ++ [y]))) else Nx H4) := by
  refine lc_tup (xs := xs) (fun i H2 => Same H1 H2 ∧ H2 D = some (.lst (ys.take i))) ⟨same_new hD, by rw [upd_same, List.take_zero]⟩ (fun i H2 _ p => sameT p.1 hS) ?_ ?_
  · rintro i x H2 hx ⟨sm, h2⟩
    have hi : i < ys.length := by rw [hy]; exact (List.getElem?_eq_some_iff.mp hx).1
    have hyi : ys[i]? = some ys[i] := List.getElem?_eq_getElem hi
    refine ⟨wipe1 _ _ _, ?_⟩
    refine yesI ?_
    refine turn i x _ _ hx hyi sm _ fun H3 s3 => ⟨ys.take i, s3 _ _ h2, ?_, same_upd_of (sm.trans s3) hD, ?_⟩
    · rw [List.length_take]
      exact small1000 (by omega)
    · rw [upd_same, List.take_add_one, hyi]
      rfl
  · rintro H2 ⟨sm, h2⟩
    refine done H2 sm ?_
    rw [h2, ← hy, List.take_length]
/-- the same over a list -/
theorem lc_listS {K : PySem.W.Frag} {a D : Addr} {xs ys : List V} {te : TE} {s : Nat} {σ : L2.St} {H1 : Hp} {Qd : Hp → Prop} (hn : xs.length ≤ 1000) (hD : H1 D = none) (hS : SqL K H1 a xs) (hy : ys.length = xs.length)
    (turn : ∀ (i : Nat) (x y : V) (H2 : Hp), xs[i]? = some x → ys[i]? = some y → Same H1 H2 → ∀ R : VK, (∀ H3, Same H2 H3 → R y H3) → te ((wipe σ [s]).set s (some x)) H2 R)
    (done : ∀ H2, Same H1 H2 → H2 D = some (.lst ys) → Qd H2) :
    ∃ W : Nat → Nat → Hp → Prop, (∃ m, W 0 m (upd H1 D (.lst []))) ∧ ∀ i m H, W i m H →
      ((Itl K a).stop i H ∧ Qd H) ∨ ((Itl K a).go i H ∧ ∃ Nx : Hp → Prop, (∀ H2, Nx H2 → ∃ m2, m2 < m ∧ W (i + 1) m2 H2) ∧ ∀ x H2, (Itl K a).yld i H x H2 → gName s x (wipe σ [s]) H2 fun σ2 H3 => wipe σ2 [s] = wipe σ [s] ∧ tYes σ2 H3 fun b H4 =>
        if b = true then te σ2 H4 fun y H5 => ∃ acc, H5 D = some (.lst acc) ∧ acc.length < sizeLine ∧ Nx (upd H5 D (.lst (acc ++ [y]))) else Nx H4) := by
  refine lc_list (xs := xs) (fun i H2 => Same H1 H2 ∧ H2 D = some (.lst (ys.take i))) ⟨same_new hD, by rw [upd_same, List.take_zero]⟩ (fun i H2 _ p => p.1.seq hS) ?_ ?_
  · rintro i x H2 hx ⟨sm, h2⟩
    have hi : i < ys.length := by rw [hy]; exact (List.getElem?_eq_some_iff.mp hx).1
    have hyi : ys[i]? = some ys[i] := List.getElem?_eq_getElem hi
    refine ⟨wipe1 _ _ _, ?_⟩
    refine yesI ?_
    refine turn i x _ _ hx hyi sm _ fun H3 s3 => ⟨ys.take i, s3 _ _ h2, ?_, same_upd_of (sm.trans s3) hD, ?_⟩
    · rw [List.length_take]
      exact small1000 (by omega)
    · rw [upd_same, List.take_add_one, hyi]
      rfl
  · rintro H2 ⟨sm, h2⟩
    refine done H2 sm ?_
    rw [h2, ← hy, List.take_length]
/-- the same over a list, its target a pair -/
theorem lc_listP {K : PySem.W.Frag} {a D : Addr} {xs ys : List V} {te : TE} {s1 s2 : Nat} {σ : L2.St} {H1 : Hp} {Qd : Hp → Prop} (hn : xs.length ≤ 1000) (hD : H1 D = none) (hS : SqL K H1 a xs) (hy : ys.length = xs.length)
    (turn : ∀ (i : Nat) (x y : V) (H2 : Hp), xs[i]? = some x → ys[i]? = some y → Same H1 H2 → ∃ p u v, x = .ref p ∧ SqT K H2 p [u, v] ∧ ∀ R : VK, (∀ H3, Same H2 H3 → R y H3) → te (((wipe σ [s1, s2]).set s1 (some u)).set s2 (some v)) H2 R)
    (done : ∀ H2, Same H1 H2 → H2 D = some (.lst ys) → Qd H2) :
    ∃ W : Nat → Nat → Hp → Prop, (∃ m, W 0 m (upd H1 D (.lst []))) ∧ ∀ i m H, W i m H →
      ((Itl K a).stop i H ∧ Qd H) ∨ ((Itl K a).go i H ∧ ∃ Nx : Hp → Prop, (∀ H2, Nx H2 → ∃ m2, m2 < m ∧ W (i + 1) m2 H2) ∧ ∀ x H2, (Itl K a).yld i H x H2 → gTup K 2 (gCons (gName s1) (gCons (gName s2) gNil)) x (wipe σ [s1, s2]) H2 fun σ2 H3 => wipe σ2 [s1, s2] = wipe σ [s1, s2] ∧ tYes σ2 H3 fun b H4 =>
        if b = true then te σ2 H4 fun y H5 => ∃ acc, H5 D = some (.lst acc) ∧ acc.length < sizeLine ∧ Nx (upd H5 D (.lst (acc ++ [y]))) else Nx H4) := by
  refine lc_list (xs := xs) (fun i H2 => Same H1 H2 ∧ H2 D = some (.lst (ys.take i))) ⟨same_new hD, by rw [upd_same, List.take_zero]⟩ (fun i H2 _ p => p.1.seq hS) ?_ ?_
  · rintro i x H2 hx ⟨sm, h2⟩
    have hi : i < ys.length := by rw [hy]; exact (List.getElem?_eq_some_iff.mp hx).1
    have hyi : ys[i]? = some ys[i] := List.getElem?_eq_getElem hi
    obtain ⟨p, u, v, rfl, hp, tn⟩ := turn i x _ _ hx hyi sm
    refine ⟨p, _, rfl, hp, rfl, _, _, rfl, _, _, rfl, rfl, wipe2 _ _ _ _ _, ?_⟩
    refine yesI ?_
    refine tn _ fun H3 s3 => ⟨ys.take i, s3 _ _ h2, ?_, same_upd_of (sm.trans s3) hD, ?_⟩
    · rw [List.length_take]
      exact small1000 (by omega)
    · rw [upd_same, List.take_add_one, hyi]
      rfl
  · rintro H2 ⟨sm, h2⟩
    refine done H2 sm ?_
    rw [h2, ← hy, List.take_length]
end SG

/-! The rules that speak of the written part, with it as a letter: so they serve in a comprehension too. -/
namespace SG
open PySem PySem.Spec PyProof.Rows L2
section
variable {X : Cx} {K : PySem.W.Frag}
def rLenS (K : PySem.W.Frag) : List V → Hp → VK → Prop := fun xs H Q => ∃ p ys, xs = [.ref p] ∧ (SqL K H p ys ∨ SqT K H p ys) ∧ Q (.int ys.length) H
def rListOf (K : PySem.W.Frag) : List V → Hp → VK → Prop := fun xs H Q => ∃ p ys, xs = [.ref p] ∧ (SqL K H p ys ∨ SqT K H p ys) ∧ ∀ l, H l = none → Q (.ref l) (upd H l (.lst ys))
def rTupOf (K : PySem.W.Frag) : List V → Hp → VK → Prop := fun xs H Q => ∃ p ys, xs = [.ref p] ∧ ((SqL K H p ys ∧ ∀ l, H l = none → Q (.ref l) (upd H l (.tup ys))) ∨ (SqT K H p ys ∧ Q (.ref p) H))
theorem k_len (e : X.K = K := by rfl) : CallR X (.builtin "len") (rLenS K) := e ▸ call_len_seq
theorem k_listOf (e : X.K = K := by rfl) : CallR X (.type "list") (rListOf K) := e ▸ call_list_of
theorem k_tupOf (e : X.K = K := by rfl) : CallR X (.type "tuple") (rTupOf K) := e ▸ call_tuple_of
theorem k_sum (hc : X.calm = true) (e : X.K = K := by rfl) : CallR X (.builtin "sum") (rSum K) := e ▸ cr_sum hc
theorem k_all (hc : X.calm = true) (e : X.K = K := by rfl) : CallR X (.builtin "all") (rAll K) := e ▸ cr_all hc
theorem k_any (hc : X.calm = true) (e : X.K = K := by rfl) : CallR X (.builtin "any") (rAny K) := e ▸ cr_any hc
theorem k_isi (e : X.K = K := by rfl) : CallR X (.builtin "isinstance") (rIsi K) := e ▸ call_isi
theorem k_repr {k : Nat} (hn : X.base.NoDigits) (hg : X.A.guards = some []) (hr : Room k X.A) (e : X.K = K := by rfl) : CallR X (.builtin "repr") (rRepr K) := e ▸ call_reprG hn hg hr
theorem k_ixL (e : X.K = K := by rfl) : IxR X (rIxL K) := e ▸ ix_list
theorem k_ixT (e : X.K = K := by rfl) : IxR X (rIxT K) := e ▸ ix_tup
theorem k_ix (e : X.K = K := by rfl) : IxR X (rIx K) := e ▸ ix_seq
theorem k_slL (e : X.K = K := by rfl) : SlR X (rSlL K) := e ▸ sl_list
theorem k_slT (e : X.K = K := by rfl) : SlR X (rSlA K) := e ▸ sl_tupA
theorem k_catT (e : X.K = K := by rfl) : OpR X (binaryOp .Add) (rCatA K) := e ▸ op_catA
theorem k_eqD (hu : X.A.units + 64 < cLine) (e : X.K = K := by rfl) : OpR X (compareOp .Eq) (rEqD K) := e ▸ op_eqD hu
theorem k_neD (hu : X.A.units + 64 < cLine) (e : X.K = K := by rfl) : OpR X (compareOp .NotEq) (rNeD K) := e ▸ op_neD hu
theorem k_rev {x : Expr} {k} {p1 p2 p3 pos : Pos} {te : TE} (he : PE X x te) (e : X.K = K := by rfl) : PE X (.Subscript x (.Slice none none (some (.UnaryOp .USub (.Constant (.int 1) k p1) p2)) p3) pos) (tRevL K te) := e ▸ pe_revL he
theorem k_tg {es : List Expr} {k : Nat} {t : TGs} {n : Nat} {pos : Pos} (hc : X.calm = true) (h : PGs X es t) (hn : (assignEach es X.env).length = n := by rfl) (hst : (assignEach es X.env).findIdx? (·.1) = none := by rfl) (e : X.K = K := by rfl) : PG X (.Tuple es k pos) (gTup K n t) := e ▸ pg_tup hc h hn hst
theorem k_enumT {x : Expr} {ta : TA} {p pos tpos : Pos} {elts : List Expr} {kk : Nat} (hg : Gl X "enumerate") (hm : X.mg "enumerate" = none) (ha : PA X [x] ta) (hs : starEach [x] X.env = [(false, eval x X.env)] := by rfl) (e : X.K = K := by rfl) :
    PI X (.Tuple elts kk tpos) (.Call (.Name "enumerate" p) [x] [] pos) (iEnumT K ta) := e ▸ pi_enumT hg hm ha hs
theorem k_enum {x : Expr} {ta : TA} {p pos tpos : Pos} {elts : List Expr} {kk : Nat} (hg : Gl X "enumerate") (hm : X.mg "enumerate" = none) (ha : PA X [x] ta) (hs : starEach [x] X.env = [(false, eval x X.env)] := by rfl) (e : X.K = K := by rfl) :
    PI X (.Tuple elts kk tpos) (.Call (.Name "enumerate" p) [x] [] pos) (iEnum K ta) := e ▸ pi_enum hg hm ha hs
end
end SG

/-! Data at any depth, and the empty dict: its kind, lengths, items. -/
namespace SG
open PySem PySem.Spec PyProof.Rows L2
/-- data, or the empty dict -/
def Dq (K : PySem.W.Frag) (H : Hp) (x : V) (d : PyData) : Prop := Dp K H x d ∨ (d = .dict [] ∧ ∃ a, x = .ref a ∧ H a = some (.dK []))
def kindOf : PyData → String
  | .none => "NoneType"
  | .bool _ => "bool"
  | .int _ => "int"
  | .str _ => "str"
  | .list _ => "list"
  | .tuple _ => "tuple"
  | .dict _ => "dict"
section
variable {K : PySem.W.Frag} {H H2 : Hp} {x : V} {d : PyData}
theorem dp_ty (h : Dp K H x d) : TyX K H x (.type (kindOf d)) := by
  cases h with
  | non => exact .base .non
  | bl b => exact .base (.bl b)
  | int i => exact .base (.int i)
  | str s => exact .base (.str s)
  | lst s _ =>
    rcases s with (s | ⟨o, s⟩) | ⟨o, vs, n, s, c, _⟩
    · exact .base (.lst s)
    · exact .base (.frz s)
    · exact .kList s c
  | tup s _ =>
    rcases s with (s | ⟨o, s⟩) | ⟨o, vs, n, s, c, _⟩
    · exact .base (.tup s)
    · exact .fTuple s
    · exact .kTuple s c
theorem dq_ty (h : Dq K H x d) : TyX K H x (.type (kindOf d)) := by
  rcases h with h | ⟨rfl, a, rfl, h⟩
  · exact dp_ty h
  · exact .base (.dK h)
mutual
theorem dp_same (s : Same H H2) : ∀ {x : V} {d : PyData}, Dp K H x d → Dp K H2 x d
  | _, _, .non => .non
  | _, _, .bl b => .bl b
  | _, _, .int i => .int i
  | _, _, .str t => .str t
  | _, _, .lst q a => .lst (s.seq q) (dpA_same s a)
  | _, _, .tup q a => .tup (sameT s q) (dpA_same s a)
theorem dpA_same (s : Same H H2) : ∀ {xs : List V} {ds : List PyData}, DpAll K H xs ds → DpAll K H2 xs ds
  | _, _, .nil => .nil
  | _, _, .cons a b => .cons (dp_same s a) (dpA_same s b)
end
theorem dq_same (s : Same H H2) (h : Dq K H x d) : Dq K H2 x d := by
  rcases h with h | ⟨e, a, e2, h⟩
  · exact .inl (dp_same s h)
  · exact .inr ⟨e, a, e2, s _ _ h⟩
theorem dpA_len : ∀ {xs : List V} {ds : List PyData}, DpAll K H xs ds → xs.length = ds.length
  | _, _, .nil => rfl
  | _, _, .cons _ b => congrArg (· + 1) (dpA_len b)
theorem dpA_get : ∀ {xs : List V} {ds : List PyData} {i : Nat} {x : V}, DpAll K H xs ds → xs[i]? = some x → ∃ d, ds[i]? = some d ∧ Dp K H x d
  | _, _, _, _, .nil, e => by simp at e
  | _, _, 0, _, .cons a b, e => by
    simp at e
    subst e
    exact ⟨_, rfl, a⟩
  | _, _, i + 1, x, .cons a b, e => by
    obtain ⟨d, h1, h2⟩ := dpA_get (i := i) (x := x) b (by simpa using e)
    exact ⟨d, by simpa using h1, h2⟩
theorem dpA_app : ∀ {xs ys : List V} {ds es : List PyData}, DpAll K H xs ds → DpAll K H ys es → DpAll K H (xs ++ ys) (ds ++ es)
  | _, _, _, _, .nil, h => h
  | _, _, _, _, .cons a b, h => .cons a (dpA_app b h)
/-- what is no tuple has no tuple's kind -/
theorem dq_tuple {ds : List PyData} (h : Dq K H x (.tuple ds)) : ∃ a xs, x = .ref a ∧ SqT K H a xs ∧ DpAll K H xs ds := by
  rcases h with h | ⟨e, _⟩
  · cases h with
    | tup q a => exact ⟨_, _, rfl, q, a⟩
  · cases e
def isTup : PyData → Bool
  | .tuple _ => true
  | _ => false
def isInt : PyData → Bool
  | .int _ => true
  | _ => false
theorem isi_tuple (h : Dq K H x d) : PySem.W.kitOne K (.type (kindOf d)) (.type "tuple") = some (isTup d) := by
  cases d with
  | none => exact kit_ty (show kitB "NoneType" "tuple" = some false by decide +kernel)
  | bool _ => exact kit_ty (show kitB "bool" "tuple" = some false by decide +kernel)
  | int _ => exact kit_ty (show kitB "int" "tuple" = some false by decide +kernel)
  | str _ => exact kit_ty (show kitB "str" "tuple" = some false by decide +kernel)
  | list _ => exact kit_ty (show kitB "list" "tuple" = some false by decide +kernel)
  | tuple _ => exact kit_ty (show kitB "tuple" "tuple" = some true by decide +kernel)
  | dict _ => exact kit_ty (show kitB "dict" "tuple" = some false by decide +kernel)
def isIntLike : PyData → Bool
  | .int _ => true
  | .bool _ => true
  | _ => false
def isBool : PyData → Bool
  | .bool _ => true
  | _ => false
theorem isi_int (h : Dq K H x d) : PySem.W.kitOne K (.type (kindOf d)) (.type "int") = some (isIntLike d) := by
  cases d with
  | none => exact kit_ty (show kitB "NoneType" "int" = some false by decide +kernel)
  | bool _ => exact kit_ty (show kitB "bool" "int" = some true by decide +kernel)
  | int _ => exact kit_ty (show kitB "int" "int" = some true by decide +kernel)
  | str _ => exact kit_ty (show kitB "str" "int" = some false by decide +kernel)
  | list _ => exact kit_ty (show kitB "list" "int" = some false by decide +kernel)
  | tuple _ => exact kit_ty (show kitB "tuple" "int" = some false by decide +kernel)
  | dict _ => exact kit_ty (show kitB "dict" "int" = some false by decide +kernel)
theorem isi_bool (h : Dq K H x d) : PySem.W.kitOne K (.type (kindOf d)) (.type "bool") = some (isBool d) := by
  cases d with
  | none => exact kit_ty (show kitB "NoneType" "bool" = some false by decide +kernel)
  | bool _ => exact kit_ty (show kitB "bool" "bool" = some true by decide +kernel)
  | int _ => exact kit_ty (show kitB "int" "bool" = some false by decide +kernel)
  | str _ => exact kit_ty (show kitB "str" "bool" = some false by decide +kernel)
  | list _ => exact kit_ty (show kitB "list" "bool" = some false by decide +kernel)
  | tuple _ => exact kit_ty (show kitB "tuple" "bool" = some false by decide +kernel)
  | dict _ => exact kit_ty (show kitB "dict" "bool" = some false by decide +kernel)
end
/-! ### two tuples put together, a slice of a tuple: whatever object it is -/
theorem cat3 {K : PySem.W.Frag} {C : V → Hp → Prop} {H : Hp} {a b : Addr} {xs ys : List V} (hA : SqT K H a xs) (hB : SqT K H b ys) (h : ∀ (x : Addr) (H3 : Hp), Same H H3 → SqT K H3 x (xs ++ ys) → C (.ref x) H3) :
    (xs = [] → C (.ref b) H) ∧ (xs ≠ [] → ys = [] → C (.ref a) H) ∧ (xs ≠ [] → ys ≠ [] → ∀ p, H p = none → C (.ref p) (upd H p (.tup (xs ++ ys)))) := by
  refine ⟨fun e => ?_, fun _ e => ?_, fun _ _ p np => h p _ (same_new np) (.inl (.inl upd_same))⟩
  · subst e
    exact h b H (Same.refl H) hB
  · subst e
    refine h a H (Same.refl H) ?_
    rw [List.append_nil]
    exact hA
def rCatU (K : PySem.W.Frag) : R2 := fun x y H Q => ∃ a b xs ys, x = .ref a ∧ y = .ref b ∧ SqT K H a xs ∧ SqT K H b ys ∧ xs.length + ys.length ≤ sizeLine ∧ ∀ (z : Addr) (H3 : Hp), Same H H3 → SqT K H3 z (xs ++ ys) → Q (.ref z) H3
theorem k_catU {X : Cx} {K : PySem.W.Frag} (e : X.K = K := by rfl) : OpR X (binaryOp .Add) (rCatU K) := by
  subst e
  intro pins s σ H x y v u Q I rx ry h
  obtain ⟨a, b, xs, ys, rfl, rfl, hA, hB, hl, q⟩ := h
  exact op_catA pins s σ H _ _ v u Q I rx ry ⟨a, b, xs, ys, rfl, rfl, hA, hB, hl, cat3 hA hB q⟩
def rSlU (K : PySem.W.Frag) : V → Option Int → Option Int → Hp → VK → Prop := fun x lo hi H Q => ∃ a xs, x = .ref a ∧ SqT K H a xs ∧ ∀ (z : Addr) (H3 : Hp), Same H H3 → SqT K H3 z (cutV xs lo hi) → Q (.ref z) H3
theorem k_slU {X : Cx} {K : PySem.W.Frag} (e : X.K = K := by rfl) : SlR X (rSlU K) := by
  subst e
  intro pins s σ H x v vl vu lo hi sl Q I rx hs pl pu h
  obtain ⟨a, xs, rfl, hA, q⟩ := h
  refine sl_tupA pins s σ H _ v vl vu lo hi sl Q I rx hs pl pu ⟨a, xs, rfl, hA, fun z => q a H (Same.refl H) ?_, fun _ p np => q p _ (same_new np) (.inl (.inl upd_same))⟩
  unfold cutV
  rw [z.1, z.2, Nat.sub_zero, List.drop_zero, List.take_length]
  exact hA
def isRuleD : PyData → Bool
  | .tuple [.tuple xs, .tuple ys] => xs.length == ys.length && (xs ++ ys).all isInt
  | _ => false
end SG

/-! Data that can be told and compared. -/
namespace SG
open PySem PySem.Spec PyProof.Rows L2
structure OkD (d : PyData) : Prop where
  lay : d.canLay0 = true
  dep : d.depth ≤ 50
  tell : tellable d = true
  short : d.leavesShort 4302 = true
  bulk : d.bulk ≤ 3000
structure OkA (ds : List PyData) : Prop where
  lay : PyData.canLayAll0 ds = true
  dep : PyData.depthAll ds ≤ 49
  tell : tellableAll ds = true
  short : PyData.leavesShortAll 4302 ds = true
theorem OkD.shown {d : PyData} (h : OkD d) : d.shown.length ≤ sizeLine := by
  have z := PyData.shown_le_bulk 4302 (by decide) d h.short
  have z2 : (4302 + 2) * d.bulk ≤ 4304 * 3000 := Nat.mul_le_mul (Nat.le_refl _) h.bulk
  rw [sizeLine_eq]
  omega
theorem OkA.tuple {ds : List PyData} (h : OkA ds) (b : PyData.bulkAll ds ≤ 3000) : OkD (.tuple ds) :=
  ⟨by simpa only [PyData.canLay0] using h.lay, by simp only [PyData.depth]; have := h.dep; omega, by simpa only [tellable] using h.tell, by simpa only [PyData.leavesShort] using h.short, by simpa only [PyData.bulk] using b⟩
theorem OkA.list {ds : List PyData} (h : OkA ds) (b : PyData.bulkAll ds ≤ 3000) : OkD (.list ds) :=
  ⟨by simpa only [PyData.canLay0] using h.lay, by simp only [PyData.depth]; have := h.dep; omega, by simpa only [tellable] using h.tell, by simpa only [PyData.leavesShort] using h.short, by simpa only [PyData.bulk] using b⟩
theorem OkA.nil : OkA [] := ⟨by simp [PyData.canLayAll0], by simp [PyData.depthAll], by simp [tellableAll], by simp [PyData.leavesShortAll]⟩
theorem OkA.cons {d : PyData} {ds : List PyData} (h : OkD d) (hd : d.depth ≤ 49) (t : OkA ds) : OkA (d :: ds) :=
  ⟨by simp only [PyData.canLayAll0, h.lay, t.lay, Bool.and_self], by simp only [PyData.depthAll]; have := t.dep; omega, by simp only [tellableAll, h.tell, t.tell, Bool.and_self], by simp only [PyData.leavesShortAll, h.short, t.short, Bool.and_self]⟩
theorem OkD.int {i : Int} (h : i.natAbs < 10 ^ 4300) : OkD (.int i) := by
  refine ⟨by simp only [PyData.canLay0], by simp only [PyData.depth]; omega, ?_, ?_, by simp only [PyData.bulk]; omega⟩
  · simp only [tellable]
    exact decide_eq_true h
  · have e := int_text_length_le10 (k := 4300) (by decide) h
    simp only [PyData.leavesShort]
    refine decide_eq_true ?_
    show (Str.ofString (toString i)).length ≤ 4302
    rw [PySem.ofString_length]
    omega
theorem okA_ints : ∀ {ns : List Int}, (∀ n ∈ ns, n.natAbs < 10 ^ 4300) → OkA (dI ns)
  | [], _ => .nil
  | n :: ns, h => .cons (.int (h n List.mem_cons_self)) (by simp only [PyData.depth]; omega) (okA_ints fun m hm => h m (List.mem_cons_of_mem _ hm))
theorem bulk_ints : ∀ ns : List Int, PyData.bulkAll (dI ns) = ns.length
  | [] => by simp [dI, PyData.bulkAll]
  | n :: ns => by
    have ih := bulk_ints ns
    show PyData.bulkAll (PyData.int n :: dI ns) = ns.length + 1
    simp only [PyData.bulkAll, PyData.bulk, ih]
    omega
end SG
namespace SG
open PySem PySem.Spec PyProof.Rows L2
theorem canLay_mem : ∀ {ds : List PyData} {d : PyData}, PyData.canLayAll0 ds = true → d ∈ ds → d.canLay0 = true
  | x :: xs, d, h, m => by
    have h2 : x.canLay0 = true ∧ PyData.canLayAll0 xs = true := by simpa only [PyData.canLayAll0, Bool.and_eq_true] using h
    rcases List.mem_cons.mp m with e | m
    · rw [e]; exact h2.1
    · exact canLay_mem h2.2 m
theorem canLay_sub : ∀ {es ds : List PyData}, PyData.canLayAll0 ds = true → (∀ e ∈ es, e ∈ ds) → PyData.canLayAll0 es = true
  | [], _, _, _ => by simp only [PyData.canLayAll0]
  | e :: es, ds, h, s => by
    simp only [PyData.canLayAll0, canLay_mem h (s e List.mem_cons_self), canLay_sub (es := es) h fun x m => s x (List.mem_cons_of_mem _ m), Bool.and_self]
theorem depth_mem : ∀ {ds : List PyData} {d : PyData}, d ∈ ds → d.depth ≤ PyData.depthAll ds
  | x :: xs, d, m => by
    simp only [PyData.depthAll]
    rcases List.mem_cons.mp m with e | m
    · rw [e]; exact Nat.le_max_left _ _
    · exact Nat.le_trans (depth_mem m) (Nat.le_max_right _ _)
theorem depth_sub : ∀ {es ds : List PyData}, (∀ e ∈ es, e ∈ ds) → PyData.depthAll es ≤ PyData.depthAll ds
  | [], _, _ => by simp only [PyData.depthAll]; omega
  | e :: es, ds, s => by
    simp only [PyData.depthAll]
    exact Nat.max_le.mpr ⟨depth_mem (s e List.mem_cons_self), depth_sub fun x m => s x (List.mem_cons_of_mem _ m)⟩
theorem shaped_sub {es ds : List PyData} (h1 : PyData.canLayAll0 ds = true) (h2 : PyData.depthAll ds ≤ 60) (s : ∀ e ∈ es, e ∈ ds) : SeqAt.shaped (.list es) = true := by
  have a := canLay_sub h1 s
  have b := depth_sub s
  simp only [SeqAt.shaped, PyData.canLay0, PyData.depth, a, Bool.true_and]
  exact decide_eq_true (by omega)
theorem eqv_nil : ∀ ds : List PyData, PyData.eqv (.list ds) (.list []) = ds.isEmpty
  | [] => by simp [PyData.eqv, PyData.eqvAll]
  | d :: ds => by simp [PyData.eqv, PyData.eqvAll]
/-- a comprehension over a tuple of data that keeps those that p takes -/
theorem lc_tupF {K : PySem.W.Frag} {a D : Addr} {xs : List V} {ds : List PyData} {tt : TT} {s : Nat} {σ : L2.St} {H1 : Hp} {Qd : Hp → Prop} (p : PyData → Bool) (hn : xs.length ≤ 1000) (hD : H1 D = none) (hS : SqT K H1 a xs) (hX : DpAll K H1 xs ds) (hs : s < σ.length)
    (turn : ∀ (x : V) (d : PyData) (H2 : Hp), d ∈ ds → Dp K H2 x d → ∀ R : Bool → Hp → Prop, R (p d) H2 → tt ((wipe σ [s]).set s (some x)) H2 R)
    (done : ∀ (ys : List V) (H2 : Hp), Same H1 H2 → H2 D = some (.lst ys) → DpAll K H1 ys (ds.filter p) → Qd H2) :
    ∃ W : Nat → Nat → Hp → Prop, (∃ m, W 0 m (upd H1 D (.lst []))) ∧ ∀ i m H, W i m H →
      ((Itt K a).stop i H ∧ Qd H) ∨ ((Itt K a).go i H ∧ ∃ Nx : Hp → Prop, (∀ H2, Nx H2 → ∃ m2, m2 < m ∧ W (i + 1) m2 H2) ∧ ∀ x H2, (Itt K a).yld i H x H2 → gName s x (wipe σ [s]) H2 fun σ2 H3 => wipe σ2 [s] = wipe σ [s] ∧ tt σ2 H3 fun b H4 =>
        if b = true then tVar s σ2 H4 fun y H5 => ∃ acc, H5 D = some (.lst acc) ∧ acc.length < sizeLine ∧ Nx (upd H5 D (.lst (acc ++ [y]))) else Nx H4) := by
  refine lc_tup (xs := xs) (fun i H2 => Same H1 H2 ∧ ∃ ys, H2 D = some (.lst ys) ∧ DpAll K H1 ys ((ds.take i).filter p) ∧ ys.length ≤ i) ⟨same_new hD, [], upd_same, by simpa using DpAll.nil, Nat.le_refl _⟩ (fun i H2 _ q => sameT q.1 hS) ?_ ?_
  · rintro i x H2 hx ⟨sm, ys, h2, hY, hl⟩
    obtain ⟨d, h1, h3⟩ := dpA_get hX hx
    have hi : i < xs.length := (List.getElem?_eq_some_iff.mp hx).1
    have e1 : (ds.take (i + 1)).filter p = (ds.take i).filter p ++ (if p d = true then [d] else []) := by
      rw [List.take_add_one, h1]
      show ((ds.take i) ++ [d]).filter p = _
      rw [List.filter_append]
      congr 1
      by_cases e : p d = true <;> simp [e]
    refine ⟨wipe1 _ _ _, ?_⟩
    refine turn x d H2 (List.mem_of_getElem? h1) (dp_same sm h3) _ ?_
    by_cases e : p d = true
    · refine ifT e ⟨x, ?_, ys, h2, small1000 (by omega), same_upd_of sm hD, ys ++ [x], upd_same, ?_, by rw [List.length_append]; simpa using hl⟩
      · rw [List.getElem?_set_self (by rw [wipe_length]; exact hs)]
      · rw [e1, if_pos e]
        exact dpA_app hY (.cons h3 .nil)
    · refine ifF (by simpa using e) ⟨sm, ys, h2, ?_, by omega⟩
      rw [e1, if_neg e, List.append_nil]
      exact hY
  · rintro H2 ⟨sm, ys, h2, hY, hl⟩
    refine done ys H2 sm h2 ?_
    rw [dpA_len hX, List.take_length] at hY
    exact hY
end SG

/-! Calls by keywords alone. -/
namespace SG
open PySem PySem.Spec PyProof.Rows L2
def kwOne {α : Type} : List α → List α → List α
  | [], [a] => [a]
  | _, _ => []
/-- two keywords, in the other order -/
def kwTurn {α : Type} : List α → List α → List α
  | [], [b, a] => [a, b]
  | _, _ => []
theorem kwOne_rel {vs : List V} {us : List Value} {zs : List V} {ws : List Value} (a : Vals vs us) (b : Vals zs ws) : Vals (kwOne vs zs) (kwOne us ws) := by
  cases a with
  | nil =>
    cases b with
    | nil => exact .nil
    | cons r t =>
      cases t with
      | nil => exact .cons r .nil
      | cons _ _ => exact .nil
  | cons _ _ => exact .nil
theorem kwTurn_rel {vs : List V} {us : List Value} {zs : List V} {ws : List Value} (a : Vals vs us) (b : Vals zs ws) : Vals (kwTurn vs zs) (kwTurn us ws) := by
  cases a with
  | nil =>
    cases b with
    | nil => exact .nil
    | cons r t =>
      cases t with
      | nil => exact .nil
      | cons r2 t2 =>
        cases t2 with
        | nil => exact .cons r2 (.cons r .nil)
        | cons _ _ => exact .nil
  | cons _ _ => exact .nil
theorem kb_of {K : PySem.W.Frag} {x qn : Str} {st : Stmt} {f : Addr} {fd : FuncData} {ps ks : List Str} {g : List Value → List Value → List Value} {gV : List V → List V → List V} (F : Fun K x qn st f fd)
    (h : ∀ (kV doc pm : Value) (an : Option Addr) (cdv ct : Value) (us ws : List Value), (g us ws).length = ps.length → bindArgs (PySem.W.fnOf x qn (defArgs st) (defBody st) (defScope st) .none kV doc pm an cdv ct) ⟨us, ks.zip ws⟩ = pure (ps.zip (g us ws)))
    (rel : ∀ {vs : List V} {us : List Value} {zs : List V} {ws : List Value}, Vals vs us → Vals zs ws → Vals (gV vs zs) (g us ws)) : KBinds K fd ps ks g gV := by
  obtain ⟨oc, od, kV, doc, pm, an, cdv, ct, osl, rfl, lk, hcd⟩ := F.ex
  exact ⟨fun s us ws _ hl => .of_eq (h kV doc pm an cdv ct us ws hl), rel⟩
end SG

/-! Data that stays while the deck is drawn from; small data. -/
namespace SG
open PySem PySem.Spec PyProof.Rows L2
section
variable {K : PySem.W.Frag} {d l : Addr} {c : Nat} {H H2 : Hp}
def St (K : PySem.W.Frag) (d l : Addr) (H : Hp) (x : V) (D : PyData) : Prop := ∀ H2, Kept d l H H2 → Dp K H2 x D
def StA (K : PySem.W.Frag) (d l : Addr) (H : Hp) (xs : List V) (ds : List PyData) : Prop := ∀ H2, Kept d l H H2 → DpAll K H2 xs ds
theorem St.at {x : V} {D : PyData} (h : St K d l H x D) : Dp K H x D := h H (Kept.refl _ _ _)
theorem St.mono {x : V} {D : PyData} (h : St K d l H x D) (k : Kept d l H H2) : St K d l H2 x D := fun H3 k3 => h H3 (k.trans k3)
theorem StA.mono {xs : List V} {ds : List PyData} (h : StA K d l H xs ds) (k : Kept d l H H2) : StA K d l H2 xs ds := fun H3 k3 => h H3 (k.trans k3)
theorem St.int (i : Int) : St K d l H (.int i) (.int i) := fun _ _ => .int i
theorem St.bl (b : Bool) : St K d l H (.bl b) (.bool b) := fun _ _ => .bl b
theorem St.str (t : Str) : St K d l H (.str t) (.str t) := fun _ _ => .str t
theorem St.non : St K d l H .non .none := fun _ _ => .non
theorem St.tup {a : Addr} {xs : List V} {ds : List PyData} (D : Deck H d l c) (h : SqT K H a xs) (t : StA K d l H xs ds) : St K d l H (.ref a) (.tuple ds) := fun H3 k => .tup (k.tup D h) (t H3 k)
theorem St.lst {a : Addr} {xs : List V} {ds : List PyData} (h : H a = some (.lst xs)) (n1 : a ≠ d) (n2 : a ≠ l) (t : StA K d l H xs ds) : St K d l H (.ref a) (.list ds) := fun H3 k => .lst (SqL.of (k _ _ h n1 n2)) (t H3 k)
theorem StA.nil : StA K d l H [] [] := fun _ _ => .nil
theorem StA.cons {x : V} {xs : List V} {D : PyData} {ds : List PyData} (a : St K d l H x D) (b : StA K d l H xs ds) : StA K d l H (x :: xs) (D :: ds) := fun H3 k => .cons (a H3 k) (b H3 k)
theorem StA.app {xs ys : List V} {ds es : List PyData} (a : StA K d l H xs ds) (b : StA K d l H ys es) : StA K d l H (xs ++ ys) (ds ++ es) := fun H3 k => dpA_app (a H3 k) (b H3 k)
theorem StA.ints (ns : List Int) : StA K d l H (ns.map V.int) (dI ns) := fun _ _ => dpInts ns
end
/-! ### small data -/
structure Sm (n b : Nat) (D : PyData) : Prop where
  lay : D.canLay0 = true
  dep : D.depth ≤ n
  tell : tellable D = true
  short : D.leavesShort 4302 = true
  bulk : D.bulk ≤ b
structure SmA (n b : Nat) (ds : List PyData) : Prop where
  lay : PyData.canLayAll0 ds = true
  dep : PyData.depthAll ds ≤ n
  tell : tellableAll ds = true
  short : PyData.leavesShortAll 4302 ds = true
  bulk : PyData.bulkAll ds ≤ b
theorem Sm.ok {n b : Nat} {D : PyData} (h : Sm n b D) (hn : n ≤ 50) (hb : b ≤ 3000) : OkD D := ⟨h.lay, Nat.le_trans h.dep hn, h.tell, h.short, Nat.le_trans h.bulk hb⟩
theorem Sm.mono {n b m e : Nat} {D : PyData} (h : Sm n b D) (hn : n ≤ m) (hb : b ≤ e) : Sm m e D := ⟨h.lay, Nat.le_trans h.dep hn, h.tell, h.short, Nat.le_trans h.bulk hb⟩
theorem SmA.mono {n b m e : Nat} {ds : List PyData} (h : SmA n b ds) (hn : n ≤ m) (hb : b ≤ e) : SmA m e ds := ⟨h.lay, Nat.le_trans h.dep hn, h.tell, h.short, Nat.le_trans h.bulk hb⟩
theorem SmA.tuple {n b : Nat} {ds : List PyData} (h : SmA n b ds) : Sm (n + 1) b (.tuple ds) :=
  ⟨by simpa only [PyData.canLay0] using h.lay, by simp only [PyData.depth]; have := h.dep; omega, by simpa only [tellable] using h.tell, by simpa only [PyData.leavesShort] using h.short, by simpa only [PyData.bulk] using h.bulk⟩
theorem SmA.list {n b : Nat} {ds : List PyData} (h : SmA n b ds) : Sm (n + 1) b (.list ds) :=
  ⟨by simpa only [PyData.canLay0] using h.lay, by simp only [PyData.depth]; have := h.dep; omega, by simpa only [tellable] using h.tell, by simpa only [PyData.leavesShort] using h.short, by simpa only [PyData.bulk] using h.bulk⟩
theorem SmA.nil (n : Nat) : SmA n 0 [] := ⟨by simp [PyData.canLayAll0], by simp [PyData.depthAll], by simp [tellableAll], by simp [PyData.leavesShortAll], by simp [PyData.bulkAll]⟩
theorem SmA.cons {n b e : Nat} {D : PyData} {ds : List PyData} (h : Sm n b D) (t : SmA n e ds) : SmA n (b + 1 + e) (D :: ds) :=
  ⟨by simp only [PyData.canLayAll0, h.lay, t.lay, Bool.and_self], by simp only [PyData.depthAll]; exact Nat.max_le.mpr ⟨h.dep, t.dep⟩, by simp only [tellableAll, h.tell, t.tell, Bool.and_self], by simp only [PyData.leavesShortAll, h.short, t.short, Bool.and_self],
    by simp only [PyData.bulkAll]; have := h.bulk; have := t.bulk; omega⟩
theorem SmA.app {n e : Nat} {es : List PyData} (t : SmA n e es) : ∀ {ds : List PyData} {b : Nat}, SmA n b ds → SmA n (b + e) (ds ++ es)
  | [], b, h => t.mono (Nat.le_refl _) (by omega)
  | D :: ds, b, h => by
    have l1 : D.canLay0 = true ∧ PyData.canLayAll0 ds = true := by simpa only [PyData.canLayAll0, Bool.and_eq_true] using h.lay
    have l2 : tellable D = true ∧ tellableAll ds = true := by simpa only [tellableAll, Bool.and_eq_true] using h.tell
    have l3 : D.leavesShort 4302 = true ∧ PyData.leavesShortAll 4302 ds = true := by simpa only [PyData.leavesShortAll, Bool.and_eq_true] using h.short
    have l4 : D.depth ≤ n ∧ PyData.depthAll ds ≤ n := by have := h.dep; simp only [PyData.depthAll] at this; exact Nat.max_le.mp this
    have l5 : D.bulk + 1 + PyData.bulkAll ds ≤ b := by have := h.bulk; simpa only [PyData.bulkAll] using this
    have z := SmA.app t (ds := ds) (b := PyData.bulkAll ds) ⟨l1.2, l4.2, l2.2, l3.2, Nat.le_refl _⟩
    exact (SmA.cons ⟨l1.1, l4.1, l2.1, l3.1, Nat.le_refl _⟩ z).mono (Nat.le_refl _) (by omega)
theorem Sm.int {i : Int} (h : i.natAbs < 10 ^ 4300) : Sm 0 0 (.int i) := by
  have z := OkD.int h
  exact ⟨z.lay, by simp [PyData.depth], z.tell, z.short, by simp [PyData.bulk]⟩
theorem SmA.ints : ∀ {ns : List Int}, (∀ n ∈ ns, n.natAbs < 10 ^ 4300) → SmA 0 ns.length (dI ns)
  | [], _ => .nil 0
  | n :: ns, h => (SmA.cons (Sm.int (h n List.mem_cons_self)) (SmA.ints fun m hm => h m (List.mem_cons_of_mem _ hm))).mono (Nat.le_refl _) (by simp; omega)
end SG

/-! Texts: joined signs; lists of values that are drawn. -/
namespace SG
open PySem PySem.Spec PyProof.Rows L2 TL
open SX (S S_tl S_len)
def rJoin (K : PySem.W.Frag) : V → List V → Hp → VK → Prop := fun x xs H Q => ∃ a p, ∃ ys : List Str, x = .str a ∧ xs = [.ref p] ∧ (SqL K H p (ys.map V.str) ∨ SqT K H p (ys.map V.str)) ∧ (ys.map (·.length)).sum + ys.length * a.length ≤ 16777216 ∧ Q (.str (Txt.join a ys)) H
theorem k_join {X : Cx} {K : PySem.W.Frag} {o e : Expr} {to te : TE} {apos pos : Pos} (ho : PE X o to) (he : PE X e te) (eK : X.K = K := by rfl) (hs : starEach [e] X.env = [(false, eval e X.env)] := by rfl) (hbase : attributeBase o "join" X.env (eval o X.env) = eval o X.env := by rfl) (hline : (apos.endLine == pos.line) = true := by rfl) :
    PE X (.Call (.Attribute o "join" apos) [e] [] pos) (tM1 (rJoin K) to te) := eK ▸ pe_join ho he hs hbase hline
/-- single signs, joined -/
theorem join_signs : ∀ gs : List Nat, Txt.join "" (gs.map fun g => (⟨#[g]⟩ : Str)) = S gs := by
  intro gs
  rw [join_eq]
  have z := tl_join "" (gs.map fun g => (⟨#[g]⟩ : Str))
  have e : ∀ ls : List Nat, joinL (tl ("" : Str)) (ls.map fun g => [g]) = ls := by
    intro ls
    induction ls with
    | nil => rfl
    | cons a r ih =>
      cases r with
      | nil => rfl
      | cons b r2 =>
        show [a] ++ (tl ("" : Str) ++ joinL (tl ("" : Str)) ((b :: r2).map fun g => [g])) = _
        rw [ih]
        rfl
  rw [List.map_map] at z
  have z2 := z.trans (e gs)
  exact (S_tl _).symm.trans (congrArg S z2)
/-- a list of values that are drawn, turn by turn -/
theorem lc_drawsV {d l D : Addr} {c n s : Nat} {te : TE} {σ : L2.St} {H1 : Hp} {Qd : Hp → Prop} {B : V → Prop} (D0 : Deck H1 d l c) (hD : H1 D = none) (hn : n ≤ 1000)
    (turn : ∀ (i : Nat) (H2 : Hp), i < n → Deck H2 d l (c + i) → Kept d l H1 H2 → ∀ R : VK, (∀ (x : V) (H3 : Hp), B x → Deck H3 d l (c + i + 1) → Kept d l H2 H3 → R x H3) → te ((wipe σ [s]).set s (some (.int (0 + i)))) H2 R)
    (done : ∀ (xs : List V) (H2 : Hp), xs.length = n → (∀ x ∈ xs, B x) → H2 D = some (.lst xs) → Deck H2 d l (c + n) → Kept d l H1 H2 → Qd H2) :
    ∃ W : Nat → Nat → Hp → Prop, (∃ m, W 0 m (upd H1 D (.lst []))) ∧ ∀ i m H, W i m H →
      ((Itr 0 n).stop i H ∧ Qd H) ∨ ((Itr 0 n).go i H ∧ ∃ Nx : Hp → Prop, (∀ H2, Nx H2 → ∃ m2, m2 < m ∧ W (i + 1) m2 H2) ∧ ∀ x H2, (Itr 0 n).yld i H x H2 → gName s x (wipe σ [s]) H2 fun σ2 H3 => wipe σ2 [s] = wipe σ [s] ∧ tYes σ2 H3 fun b H4 =>
        if b = true then te σ2 H4 fun y H5 => ∃ acc, H5 D = some (.lst acc) ∧ acc.length < sizeLine ∧ Nx (upd H5 D (.lst (acc ++ [y]))) else Nx H4) := by
  obtain ⟨nd, nl⟩ := D0.ne hD
  refine lc_range (fun i H2 => ∃ xs : List V, xs.length = i ∧ (∀ x ∈ xs, B x) ∧ H2 D = some (.lst xs) ∧ Deck H2 d l (c + i) ∧ Kept d l H1 H2) ?_ ?_ ?_
  · exact ⟨[], rfl, (fun _ h => absurd h List.not_mem_nil), upd_same, D0.upd hD, .of (same_new hD)⟩
  · rintro i H2 hi ⟨xs, hx, hB, hD2, D2, k2⟩
    refine ⟨wipe1 _ _ _, ?_⟩
    refine yesI ?_
    refine turn i H2 hi D2 k2 _ fun x H3 hb D3 k3 => ⟨xs, k3 _ _ hD2 nd nl, ?_, xs ++ [x], by simp [hx], fun y hy => ?_, upd_same, ?_, ?_⟩
    · rw [hx]
      exact small1000 (by omega)
    · rcases List.mem_append.mp hy with h | h
      · exact hB y h
      · rw [List.mem_singleton.mp h]; exact hb
    · obtain ⟨cs, m, k, h1, h2, h3⟩ := D3
      exact ⟨cs, m, k, by rw [upd_ne nd.symm]; exact h1, by rw [upd_ne nl.symm]; exact h2, h3⟩
    · intro b o e h1 h2
      rw [upd_ne (ne_of_none e hD)]
      exact k3 _ _ (k2 _ _ e h1 h2) h1 h2
  · rintro H2 ⟨xs, hx, hB, hD2, D2, k2⟩
    exact done xs H2 hx hB hD2 D2 k2
/-- values that are single signs -/
theorem signs_of : ∀ {xs : List V} {p : Nat → Prop}, (∀ x ∈ xs, ∃ g, p g ∧ x = .str ⟨#[g]⟩) → ∃ gs : List Nat, xs = (gs.map fun g => (⟨#[g]⟩ : Str)).map V.str ∧ ∀ g ∈ gs, p g
  | [], _, _ => ⟨[], rfl, fun _ h => nomatch h⟩
  | x :: xs, p, h => by
    obtain ⟨g, hg, rfl⟩ := h x List.mem_cons_self
    obtain ⟨gs, rfl, hs⟩ := signs_of (xs := xs) (p := p) fun y hy => h y (List.mem_cons_of_mem _ hy)
    refine ⟨g :: gs, rfl, fun y hy => ?_⟩
    rcases List.mem_cons.mp hy with rfl | hy
    · exact hg
    · exact hs y hy
theorem sum_ones : ∀ gs : List Nat, ((gs.map fun g => (⟨#[g]⟩ : Str)).map (·.length)).sum = gs.length
  | [] => rfl
  | g :: gs => by
    have ih := sum_ones gs
    simp only [List.map_cons, List.sum_cons, List.length_cons, ih]
    show 1 + gs.length = _
    omega
end SG

/-! enumerate of a text from a number on; an integer's figures of base 2 in an f-string. -/
namespace SG
section
open PySem PyProof.Rows Builtin
def fB : PySem.Builtin.Float.FormatSpec := { fill := 32, align := 62, type := some 98 }
theorem fB_ok : PySem.Builtin.Float.parseFormatSpec ("b" : PySem.Str).cps.toList "int" 62 = .ok fB := by
  rfl
section
variable {prog : Program} {w : World} {A : Around} {E : Value → Shared → Prop} {s : Shared} {env : Env}
theorem mk_eq {M : Model} {X T : PySem.Str} {Q : Value → Shared → Prop} (e : X = T) (hL : T.length ≤ sizeLine) (h : Q (.str T s.toks) { s with toks := s.toks + 1 }) : wpAny M A (mkStr X) Q E s := by
  subst e
  exact wpAny_mkStr h hL
theorem formatField_int_b2 {n : Nat} {t : Tok} {spec : PySem.Str} {f : PySem.Builtin.Float.FormatSpec} {Q : Value → Shared → Prop} (hl : (Nat.toDigits 2 n).length ≤ 1000) (hd : Nat.toDigits 2 n ≠ [])
    (hp : PySem.Builtin.Float.parseFormatSpec spec.cps.toList "int" 62 = .ok f) (hty : f.type = some 98) (hpr : f.precision = none) (hz : f.noNeg0 = false) (hal : f.alt = false) (hw : f.width = none) (hgr : f.grouping = none) (hsg : f.sign = none) (hfi : f.fill = 32) (hag : f.align = 62) (hne : (spec.length == 0) = false) (hsz : spec.length ≤ sizeLine)
    (hasc : ((spec.cps.toList.drop 1).any (· ≥ 128) || (spec.cps.getD 0 0 ≥ 128 && !([60, 62, 61, 94] : List Nat).contains (spec.cps.getD 1 0))) = false)
    (h : Q (.str ⟨((Nat.toDigits 2 n).map Char.toNat).toArray⟩ (s.toks + 1)) { s with toks := s.toks + 1 + 1 }) :
    wpAny (model prog w) A (formatField (.int n t) spec) Q E s := by
  show wpAny _ _ (holding [.int n t] (pyFormat (.int n t) spec)) Q E s
  refine wpAny_holding ?_
  unfold pyFormat
  refine wpAny_bind (wpAny_mkStr ?_ hsz)
  refine wpAny_bind (m := callSpecial? (.int n t) (Str.ofString "__format__") [.str spec s.toks]) (wpAny_callSpecial?_slot (name := Str.ofString "__format__") (typeIs_int _ n t) slot_int_format ?_)
  refine wpAny_call (codeAny_call_builtin slot_int_format.plain entry_int_format (slot_int_format.check _ _ _ _ _ _ _ _ (typeIs_int _ n t) (args_int_format _ _) ?_))
  unfold Builtin.«int.__format__»
  simp only [selfAndOne, noKeywords, Int.intOfSelf, asInt?, asStr?, List.isEmpty_nil, if_true, pure_bind, bind_pure, bind_assoc, hne, hasc, Bool.false_eq_true, if_false,
    show (Value.str spec s.toks == Value.none) = false from rfl]
  refine wpAny_bind (wpAny_typeNameOf (T := "str") (typeIs_str _ _ _) (by decide) fun _ => ?_)
  first | refine wpAny_bind (wpAny_typeNameOfCut_int ?_) | refine wpAny_bind (wpAny_typeNameOf_int ?_)
  simp only [hp, hty, Option.getD_some]
  rw [if_pos (by decide)]
  show wpAny _ _ (if _ then _ else _) _ _ _
  rw [if_neg (by simp [hpr])]
  show wpAny _ _ (if _ then _ else _) _ _ _
  rw [if_neg (by simp [hz])]
  show wpAny _ _ (if _ then _ else _) _ _ _
  rw [if_neg (by decide)]
  show wpAny _ _ (if _ then _ else _) _ _ _
  rw [if_neg (by decide)]
  show wpAny _ _ (if _ then _ else _) _ _ _
  rw [if_neg (by simp [hw])]
  show wpAny _ _ (retStr _) _ _ _
  unfold retStr
  have e : ∀ d : Nat, (if ((98 : Nat) == 88) = true then (Nat.digitChar d).toUpper else Nat.digitChar d).toNat = (Nat.digitChar d).toNat := fun d => rfl
  refine wpAny_bind (mk_eq (T := ⟨((Nat.toDigits 2 n).map Char.toNat).toArray⟩) ?_ ?_ (wpAny_pure ?_))
  · rw [if_neg (show ¬ f.alt = true by rw [hal]; exact Bool.false_ne_true)]
    have e1 : (List.map (fun c : Char => (if ((98 : Nat) == 88) = true then c.toUpper else c).toNat) (Nat.toDigits 2 (n : Int).natAbs)) = (Nat.toDigits 2 n).map Char.toNat := rfl
    have e2 : decide ((n : Int) < 0) = false := decide_eq_false (by omega)
    have e3 : ((Nat.toDigits 2 n).map Char.toNat).isEmpty = false := by
      cases q : Nat.toDigits 2 n with
      | nil => exact absurd q hd
      | cons _ _ => rfl
    rw [e1, e2]
    have ef : f = fB := by
      cases f
      simp_all [fB]
    clear hp hty hpr hz hal hw hgr hsg hfi hag h
    subst ef
    generalize (Nat.toDigits 2 n).map Char.toNat = ds at e3 ⊢
    cases ds with
    | nil => cases e3
    | cons a r =>
      conv => lhs; whnf
      have z : ((-1 : Int) - ((0 : Nat) + (0 : Nat) + (0 : Nat)) - (((a :: r).length : Nat) : Int)).toNat = 0 := by omega

      simp [fB]
      omega
  · show ((Nat.toDigits 2 n).map Char.toNat).toArray.size ≤ sizeLine
    rw [List.size_toArray, List.length_map]
    exact Nat.le_trans hl (by decide)
  · dsimp only
    refine wpAny_bind (wpAny_isInstance (typeIs_str _ _ _) isSubtype_str_str (wpAny_pure ?_))
    exact h
theorem formatField_int_b {n : Nat} {t : Tok} {Q : Value → Shared → Prop} (hl : (Nat.toDigits 2 n).length ≤ 1000) (hd : Nat.toDigits 2 n ≠ [])
    (h : Q (.str ⟨((Nat.toDigits 2 n).map Char.toNat).toArray⟩ (s.toks + 1)) { s with toks := s.toks + 1 + 1 }) :
    wpAny (model prog w) A (formatField (.int n t) "b") Q E s :=
  formatField_int_b2 hl hd fB_ok rfl rfl rfl rfl rfl rfl rfl rfl rfl (by decide +kernel) (by decide) (by decide +kernel) h
end
end
end SG
namespace SG
open PySem PySem.Spec PyProof.Rows L2
section
variable {M : Model} {A : Around} {E : Value → Shared → Prop} {s : Shared} {env : Env}
theorem callWith_tyKwB {pos : Pos} {T : String} {first : List Value} {args : List (Bool × Sem Value)} {keywords : List (Option Str × Sem Value)} {Q : Value → Shared → Prop}
    (hplain : args.any (·.1) = false) (hkw : keywords.any (·.1.isNone) = false)
    (h : wpAny M A (evalArgs (.type T) true args keywords) (fun a s₁ => wpAny M A (call (.type T) (first ++ a.pos) a.kw) Q E s₁) E s) :
    wpAny M A (callWith pos (.type T) first args keywords) Q E s := by
  unfold callWith
  refine wpAny_bind (wpAny_holding (wpAny_mono h (fun a s₁ h₁ => wpAny_bind (wpAny_standAt ?_)) fun _ _ x => x))
  simp only [hplain, hkw, Bool.or_false]
  refine wpAny_bind (wpAny_pure ?_)
  exact wpAny_bind (wpAny_mono h₁ (fun r s₂ hr => wpAny_bind (wpAny_holding (wpAny_point (wpAny_pure hr)))) fun _ _ x => x)
theorem callWith_tyKw {pos : Pos} {T : String} {e : Expr} {rest : List Expr} {kws : List Keyword} {Q : Value → Shared → Prop}
    (h : wpAny M A (spliced (backTo pos (starEach (e :: rest) env))) (fun vs s₁ => wpAny M A (evalAll ((backToKw pos (keywordEach kws env)).map (·.2)))
      (fun kvs s₂ => wpAny M A (call (.type T) vs (((backToKw pos (keywordEach kws env)).filterMap (·.1)).zip kvs)) Q E s₂) E s₁) E s)
    (he : backTo pos (starEach (e :: rest) env) = (false, eval e env) :: backTo pos (starEach rest env) := by rfl)
    (hplain : (backTo pos (starEach (e :: rest) env)).any (·.1) = false := by rfl)
    (hall : (backToKw pos (keywordEach kws env)).all (·.1.isSome) = true := by rfl)
    (hkw : (backToKw pos (keywordEach kws env)).any (·.1.isNone) = false := by rfl) :
    wpAny M A (callWith pos (.type T) [] (backTo pos (starEach (e :: rest) env)) (backToKw pos (keywordEach kws env))) Q E s := by
  refine callWith_tyKwB hplain hkw ?_
  rw [he] at h ⊢
  exact evalArgs_kwB hall h
end
theorem Draws.shift {prog : Program} {w : World} {A : Around} {it : Addr} {fp : List Addr} {n : Nat} {P : Nat → Value → Prop} {St : Nat → Heap → Prop} (D : Draws prog w A it fp n P St) (k : Nat) :
    Draws prog w A it fp (k + n) (fun j v => P (j - k) v) (fun j h => k ≤ j ∧ St (j - k) h) where
  live := fun _ _ st => D.live _ _ st.2
  frame := fun _ _ _ st hk => ⟨st.1, D.frame _ _ _ st.2 hk⟩
  item := fun i s Q E hi st hQ => D.item (i - k) s Q E (by omega) st.2 fun v h' tk p st' sb => hQ v h' tk p ⟨by omega, by rw [show i + 1 - k = i - k + 1 by omega]; exact st'⟩ sb
  done := fun s Q E st hE => D.done s Q E (by rw [show n = k + n - k by omega]; exact st.2) hE
/-- a text's signs, each behind its number, from k on, in a new pair -/
def IteS (x : Str) (k : Nat) : It :=
  ⟨fun i _ => i < x.cps.size, fun i Hx v H2 => ∃ T c, v = .ref T ∧ Hx T = none ∧ x.cps[i]? = some c ∧ H2 = upd Hx T (.tup [.int ((k + i : Nat) : Int), .str ⟨#[c]⟩]), fun i _ => x.cps.size ≤ i⟩
theorem turn_enumS {P : Program} {w : World} {K : PySem.W.Frag} {elts : List Expr} {kk : Nat} {tpos : Pos} (x : Str) (t : Tok) (k : Nat) (e it : Addr) :
    Turn P w K (.Tuple elts kk tpos) (IteS x k) [e, it] e (fun i h => (∃ old, IsEnum h e it ((k + i : Nat) : Int) old) ∧ h.IsStrIter it (strIterType x) x t i ∧ e ≠ it) where
  mem := by simp
  obj := fun i h q b hb => by
    obtain ⟨⟨old, he⟩, ⟨o, ho, hc, hd⟩, _⟩ := q
    rcases (show b = e ∨ b = it by simpa using hb) with z | z
    · rw [z]; exact ⟨_, he, fun v q => nomatch q⟩
    · rw [z]; exact ⟨o, ho, fun v q => by rw [hd] at q; cases q⟩
  keep := fun i h h2 q kp => by
    obtain ⟨⟨old, he⟩, ⟨o, ho, r⟩, hne⟩ := q
    exact ⟨⟨old, kp e (by simp) _ he⟩, ⟨o, kp it (by simp) o ho, r⟩, hne⟩
  item := by
    intro X hP hw hK hc i pins st σ Hx E I hf q hg
    subst hP hw hK
    obtain ⟨⟨old, he⟩, hit, hne⟩ := q
    have hel : e < st.heap.objs.size := Heap.lt_size he
    have hil : it < st.heap.objs.size := by obtain ⟨_, z, _⟩ := hit; exact Heap.lt_size z
    have hi : i < x.cps.size := hg
    refine wpAny_pyNext_enum_itemD (Draws.shift (Draws.text (prog := X.prog) (w := X.w) (A := X.A.in1) (I.ok.hd hc) it x t) k) (i := k + i) he ⟨Nat.le_add_right _ _, by rw [Nat.add_sub_cancel_left]; exact hit⟩ (by omega) hne (by simp [hne]) fun y h1 tk hy ho hs1 hT hsz hk => ?_
    obtain ⟨c, u, hcx, rfl⟩ := hy
    rw [Nat.add_sub_cancel_left] at hcx
    have hs2 := hs1.2
    rw [show k + i + 1 - k = i + 1 by omega] at hs2
    refine ⟨_, rfl, wpAny_letOwnedTupleGo_enum (s := { st with heap := h1, toks := tk + 1 }) ho fun h2 he2 sb => ?_⟩
    have hT2 : h2.get? st.heap.objs.size = some { cls := .type "tuple", data := .seq #[.int ((k + i : Nat) : Int) tk, .str ⟨#[c]⟩ u] } := (sb.2 _ (Nat.ne_of_gt hel)).trans hT
    have new : ObjOk X.prog X.w (upd Hx st.heap.objs.size (.tup [.int ((k + i : Nat) : Int), .str ⟨#[c]⟩])) h2 st.heap.objs.size (.tup [.int ((k + i : Nat) : Int), .str ⟨#[c]⟩]) :=
      ⟨by show 2 ≤ sizeLine; decide, [.int ((k + i : Nat) : Int) tk, .str ⟨#[c]⟩ u], .cons ⟨_, rfl⟩ (.cons ⟨_, rfl⟩ .nil), ⟨_, hT2, rfl, _, rfl⟩⟩
    have I1 : L2.Inv X pins σ (upd Hx st.heap.objs.size (.tup [.int ((k + i : Nat) : Int), .str ⟨#[c]⟩])) { st with heap := h2, toks := tk + 1 } :=
      I.turnedNew (ch := [e, it]) (fun b ob hb z => (sb.2 b (fun z => hb (by simp [z]))).trans (hk b ob (fun z => hb (by simp [z])) (fun z => hb (by simp [z])) z)) hf (Nat.le_refl _) new
    refine ⟨.ref st.heap.objs.size, _, I1, rfl, ⟨_, c, rfl, I.hok.fresh (Nat.le_refl _), hcx, rfl⟩, ⟨⟨.str ⟨#[c]⟩ u, ?_⟩, ?_, hne⟩, fun b hb => ?_⟩
    · rw [show ((k + (i + 1) : Nat) : Int) = ((k + i : Nat) : Int) + 1 by omega]
      exact he2
    · obtain ⟨o, ho, r⟩ := hs2
      exact ⟨o, (sb.2 it (Ne.symm hne)).trans ho, r⟩
    · have hb2 : b < st.heap.objs.size := by
        rcases (show b = e ∨ b = it by simpa using hb) with z | z
        · rw [z]; exact hel
        · rw [z]; exact hil
      rw [upd_ne (Nat.ne_of_lt hb2)]
      exact (hf b hb).1
  done := by
    intro X hP hw hK hc i pins st σ Hx E I hf q hg
    subst hP hw hK
    obtain ⟨⟨old, he⟩, hit, hne⟩ := q
    obtain ⟨f0, f1, f2, f3, f4, f5⟩ := hf it (by simp)
    have hx : x.cps[i]? = none := Array.getElem?_eq_none hg
    have D : Draws X.prog X.w X.A.in1 it [it] i (fun _ _ => True) (fun j h => j = i ∧ h.IsStrIter it (strIterType x) x t i) :=
      { live := fun _ _ z => by obtain ⟨_, ⟨o, ho, _⟩⟩ := z; exact ⟨o, ho⟩
        frame := fun _ _ _ z hk => ⟨z.1, by obtain ⟨o, ho, r⟩ := z.2; exact ⟨o, hk it (by simp) o ho, r⟩⟩
        item := fun j s Q E hj z => absurd z.1 (Nat.ne_of_lt hj)
        done := fun s Q E z hE => ?dn }
    case dn =>
      obtain ⟨_, z⟩ := z
      revert z
      unfold strIterType
      cases ha : x.cps.all (· < 128)
      · simp only [Bool.false_eq_true, if_false]
        intro z
        exact wpAny_nextOf_wide_end (I.ok.hd hc) z hx hE
      · simp only [if_true]
        intro z
        exact wpAny_nextOf_ascii_end (I.ok.hd hc) z hx hE
    exact wpAny_pyNext_enum_endD D he ⟨rfl, hit⟩ fun h2 eb => ⟨rfl, I.turned (t' := st.toks) (fun b o hb q => eb b o hb q) f0 f1 f3 f4 f5⟩
  self := fun A i st Q E q h => by
    obtain ⟨⟨_, he⟩, _⟩ := q
    exact wpAny_pyIter_enum he h
def iEnumS (ta tk : TA) : TI := fun σ Hx R => ta σ Hx fun vs H1 => tk σ H1 fun ks H2 => ∃ (x : Str) (k : Nat), vs = [.str x] ∧ ks = [.int k] ∧ k < 1000000 ∧ R (IteS x k) H2
theorem pi_enumS {X : Cx} {e c : Expr} {ta tk : TA} {p pos tpos kpos : Pos} {elts : List Expr} {kk : Nat} (hg : Gl X "enumerate") (hm : X.mg "enumerate" = none) (ha : PA X [e] ta) (hk : PK X [⟨some "start", c, kpos⟩] tk) (hs : starEach [e] X.env = [(false, eval e X.env)] := by rfl) :
    PI X (.Tuple elts kk tpos) (.Call (.Name "enumerate" p) [e] [⟨some "start", c, kpos⟩] pos) (iEnumS ta tk) := by
  refine ⟨fun pins st σ Hx R I h => ?_⟩
  refine wpAny_Call_Name_kw (ld_blt I hg hm boot_enumerate (callWith_tyKw (thn (ha.run pos pins st σ Hx _ I h) ?_) (by rw [hs]; rfl) (by rw [hs]; rfl)))
  rintro us s1 ⟨vs, H1, I1, r1, q1⟩
  refine thn (hk.run pos pins s1 σ H1 _ I1 q1) ?_
  rintro ws s2 ⟨zs, H2, I2, r2, x, k, rfl, rfl, hk9, q⟩
  obtain ⟨t, rfl⟩ : ∃ t, us = [.str x t] := by
    cases r1 with
    | cons x y => cases y; obtain ⟨t, rfl⟩ := x; exact ⟨_, rfl⟩
  obtain ⟨u, rfl⟩ : ∃ u, ws = [.int k u] := by
    cases r2 with
    | cons x y => cases y; obtain ⟨t, rfl⟩ := x; exact ⟨_, rfl⟩
  show wpAny _ _ (call (.type "enumerate") [.str x t] [(Str.ofString "start", .int k u)]) _ _ _
  refine enum_begins_start (begins_text x t) trivial (by omega) (by omega) fun h2 he hit hsz hkp => wpAny_pyIter_enum he ?_
  have I3 : L2.Inv X pins σ H2 { s2 with heap := h2 } := I2.kept (t' := s2.toks) hkp
  refine ⟨s2.heap.objs.size + 1, [s2.heap.objs.size + 1, s2.heap.objs.size], _, _, H2, rfl, I3, turn_enumS x t k (s2.heap.objs.size + 1) s2.heap.objs.size,
    ⟨⟨.none, he⟩, ⟨_, hit, rfl, rfl⟩, Nat.succ_ne_self _⟩, fun b hb => ?_, q⟩
  have hle : s2.heap.objs.size ≤ b := by
    rcases (show b = s2.heap.objs.size + 1 ∨ b = s2.heap.objs.size by simpa using hb) with z | z
    · rw [z]; exact Nat.le_succ _
    · rw [z]; exact Nat.le_refl _
  exact I2.fpOk hle (I2.hok.fresh hle)
end SG

namespace SG
open PySem PySem.Spec PyProof.Rows L2
open SX (S)
/-- an integer's figures of base 2, as signs -/
def binS (n : Nat) : List Nat := (Nat.toDigits 2 n).map Char.toNat
def tFmtB (te : TE) : TE := fun σ H Q => te σ H fun x H1 => ∃ n : Nat, x = .int n ∧ n < 2 ^ 900 ∧ Q (.str (S (binS n))) H1
theorem bin_len {n : Nat} (h : n < 2 ^ 900) : (Nat.toDigits 2 n).length ≤ 1000 := Nat.le_trans (toDigits_len_pow (by decide) (by decide) h) (by decide)
theorem bin_ne (n : Nat) : Nat.toDigits 2 n ≠ [] := by
  intro e
  have := toDigits_len_ge 2 n
  rw [e] at this
  cases this
theorem pe_fmtB {X : Cx} {e : Expr} {te : TE} {pos p1 p2 : Pos} {j : Nat} (he : PE X e te) : PE X (.FormattedValue e (-1) (some (.JoinedStr [.Constant (.str "b") j p1] p2)) pos) (tFmtB te) := by
  refine ⟨fun pins s σ H Q I h => wpAny_FormattedValue_spec (thn (he.run pins s σ H _ I h) ?_)⟩
  rintro v s1 ⟨x, H1, I1, r1, n, rfl, hn, q⟩
  obtain ⟨t, rfl⟩ := r1
  refine thn ((pe_joined1 (X := X) (pe_str (x := "b"))).run pins s1 σ H1 (fun y H2 => y = .str "b" ∧ H2 = H1) I1 ⟨rfl, rfl⟩) ?_
  rintro u s2 ⟨y, H2, I2, r2, rfl, rfl⟩
  obtain ⟨t2, rfl⟩ := r2
  exact ⟨_, _, rfl, formatField_int_b (bin_len hn) (bin_ne n) ⟨.str (S (binS n)), H2, I2.tok _, ⟨_, rfl⟩, q⟩⟩
theorem walk_enumS {x : Str} {k : Nat} : Walk (IteS x k) x.cps.size (fun _ => True) (fun i H v H' => ∃ T c, v = .ref T ∧ H T = none ∧ x.cps[i]? = some c ∧ H' = upd H T (.tup [.int ((k + i : Nat) : Int), .str ⟨#[c]⟩])) :=
  ⟨fun _ _ hi _ => hi, fun _ _ => Nat.le_refl _, fun _ _ _ _ _ _ y => y⟩
end SG

/-! // by a divisor of either sign; texts of integers below a bound. -/
namespace SG
open PySem PySem.Spec PyProof.Rows L2
/-- // by a divisor that is not 0, below 2 ^ 9000 either way -/
def CDivN (_ j : Int) : Prop := j ≠ 0 ∧ j.natAbs.log2 < 9000
theorem op_fdivN {X : Cx} : OpR X (binaryOp .FloorDiv) (rI CDivN fun i j => .int (i.fdiv j)) := opI fun i j _ _ _ _ _ hc q =>
  floordiv_int hc.1 q (.inl (PyProof.noPylong_of_log2 hc.2))
theorem wide_divN {i j : Int} {b : Nat} (h : j ≠ 0) (hb : j.natAbs < 2 ^ b) (h0 : 0 < b) (h9 : b ≤ 9000) : CDivN i j := ⟨h, Nat.lt_of_lt_of_le (PySem.Flt.log2_lt_of h0 hb) h9⟩
theorem fdiv_pos_eq {a g : Int} (h : 0 < g) : a.fdiv g = a / g := Int.fdiv_eq_ediv_of_nonneg a (by omega)
theorem fdiv_neg_eq {a g : Int} (h : 0 < g) : a.fdiv (-g) = (-a) / g := by
  have z : (-(-a)).fdiv (-g) = (-a).fdiv g := Int.neg_fdiv_neg ..
  rw [Int.neg_neg] at z
  rw [z]
  exact fdiv_pos_eq h
end SG

/-! Data in which empty dicts stand, at any depth: its kind, its text. -/
namespace SG
open PySem PySem.Spec PyProof.Rows L2
mutual
/-- v is the data d, in which dicts are empty ones -/
inductive Dx (K : PySem.W.Frag) (H : Hp) : V → PyData → Prop
  | non : Dx K H .non .none
  | bl (b : Bool) : Dx K H (.bl b) (.bool b)
  | int (i : Int) : Dx K H (.int i) (.int i)
  | str (t : Str) : Dx K H (.str t) (.str t)
  | lst {p : Addr} {xs : List V} {es : List PyData} (hq : SqL K H p xs) (ha : DxAll K H xs es) : Dx K H (.ref p) (.list es)
  | tup {p : Addr} {xs : List V} {es : List PyData} (hq : SqT K H p xs) (ha : DxAll K H xs es) : Dx K H (.ref p) (.tuple es)
  | dct {p : Addr} (hp : H p = some (.dK [])) : Dx K H (.ref p) (.dict [])
inductive DxAll (K : PySem.W.Frag) (H : Hp) : List V → List PyData → Prop
  | nil : DxAll K H [] []
  | cons {x : V} {xs : List V} {e : PyData} {es : List PyData} (hx : Dx K H x e) (ht : DxAll K H xs es) : DxAll K H (x :: xs) (e :: es)
end
section
variable {K : PySem.W.Frag} {H H2 : Hp} {x : V} {d : PyData}
mutual
theorem dx_dp : ∀ {x : V} {d : PyData}, Dp K H x d → Dx K H x d
  | _, _, .non => .non
  | _, _, .bl b => .bl b
  | _, _, .int i => .int i
  | _, _, .str t => .str t
  | _, _, .lst q a => .lst q (dxA_dp a)
  | _, _, .tup q a => .tup q (dxA_dp a)
theorem dxA_dp : ∀ {xs : List V} {ds : List PyData}, DpAll K H xs ds → DxAll K H xs ds
  | _, _, .nil => .nil
  | _, _, .cons a b => .cons (dx_dp a) (dxA_dp b)
end
mutual
theorem dx_same (s : Same H H2) : ∀ {x : V} {d : PyData}, Dx K H x d → Dx K H2 x d
  | _, _, .non => .non
  | _, _, .bl b => .bl b
  | _, _, .int i => .int i
  | _, _, .str t => .str t
  | _, _, .lst q a => .lst (s.seq q) (dxA_same s a)
  | _, _, .tup q a => .tup (sameT s q) (dxA_same s a)
  | _, _, .dct h => .dct (s _ _ h)
theorem dxA_same (s : Same H H2) : ∀ {xs : List V} {ds : List PyData}, DxAll K H xs ds → DxAll K H2 xs ds
  | _, _, .nil => .nil
  | _, _, .cons a b => .cons (dx_same s a) (dxA_same s b)
end
theorem dx_ty (h : Dx K H x d) : TyX K H x (.type (kindOf d)) := by
  cases h with
  | non => exact .base .non
  | bl b => exact .base (.bl b)
  | int i => exact .base (.int i)
  | str s => exact .base (.str s)
  | dct h => exact .base (.dK h)
  | lst s _ =>
    rcases s with (s | ⟨o, s⟩) | ⟨o, vs, n, s, c, _⟩
    · exact .base (.lst s)
    · exact .base (.frz s)
    · exact .kList s c
  | tup s _ =>
    rcases s with (s | ⟨o, s⟩) | ⟨o, vs, n, s, c, _⟩
    · exact .base (.tup s)
    · exact .fTuple s
    · exact .kTuple s c
theorem dxA_len : ∀ {xs : List V} {ds : List PyData}, DxAll K H xs ds → xs.length = ds.length
  | _, _, .nil => rfl
  | _, _, .cons _ b => congrArg (· + 1) (dxA_len b)
theorem dxA_get : ∀ {xs : List V} {ds : List PyData} {i : Nat} {x : V}, DxAll K H xs ds → xs[i]? = some x → ∃ d, ds[i]? = some d ∧ Dx K H x d
  | _, _, _, _, .nil, e => by simp at e
  | _, _, 0, _, .cons a b, e => by
    simp at e
    subst e
    exact ⟨_, rfl, a⟩
  | _, _, i + 1, x, .cons a b, e => by
    obtain ⟨d, h1, h2⟩ := dxA_get (i := i) (x := x) b (by simpa using e)
    exact ⟨d, by simpa using h1, h2⟩
theorem dxA_app : ∀ {xs ys : List V} {ds es : List PyData}, DxAll K H xs ds → DxAll K H ys es → DxAll K H (xs ++ ys) (ds ++ es)
  | _, _, _, _, .nil, h => h
  | _, _, _, _, .cons a b, h => .cons a (dxA_app b h)
theorem dxA_take : ∀ {xs : List V} {ds : List PyData} (n : Nat), DxAll K H xs ds → DxAll K H (xs.take n) (ds.take n)
  | _, _, 0, _ => .nil
  | _, _, _ + 1, .nil => .nil
  | _, _, n + 1, .cons a b => .cons a (dxA_take n b)
theorem dxA_drop : ∀ {xs : List V} {ds : List PyData} (n : Nat), DxAll K H xs ds → DxAll K H (xs.drop n) (ds.drop n)
  | _, _, 0, h => h
  | _, _, _ + 1, .nil => .nil
  | _, _, n + 1, .cons a b => dxA_drop n b
theorem dxA_rev : ∀ {xs : List V} {ds : List PyData}, DxAll K H xs ds → DxAll K H xs.reverse ds.reverse
  | _, _, .nil => .nil
  | _, _, .cons a b => by
    rw [List.reverse_cons, List.reverse_cons]
    exact dxA_app (dxA_rev b) (.cons a .nil)
theorem dx_tuple {ds : List PyData} (h : Dx K H x (.tuple ds)) : ∃ a xs, x = .ref a ∧ SqT K H a xs ∧ DxAll K H xs ds := by
  cases h with
  | tup q a => exact ⟨_, _, rfl, q, a⟩
theorem kit_d (T : String) (p : PyData → Bool) (h : ∀ d, kitB (kindOf d) T = some (p d)) (d : PyData) : PySem.W.kitOne K (.type (kindOf d)) (.type T) = some (p d) := kit_ty (h d)
theorem isx_tuple (d : PyData) : PySem.W.kitOne K (.type (kindOf d)) (.type "tuple") = some (isTup d) := kit_d _ _ (fun d => by
  cases d with
  | none => exact (show kitB "NoneType" "tuple" = some false by decide +kernel)
  | bool _ => exact (show kitB "bool" "tuple" = some false by decide +kernel)
  | int _ => exact (show kitB "int" "tuple" = some false by decide +kernel)
  | str _ => exact (show kitB "str" "tuple" = some false by decide +kernel)
  | list _ => exact (show kitB "list" "tuple" = some false by decide +kernel)
  | tuple _ => exact (show kitB "tuple" "tuple" = some true by decide +kernel)
  | dict _ => exact (show kitB "dict" "tuple" = some false by decide +kernel)) d
theorem isx_int (d : PyData) : PySem.W.kitOne K (.type (kindOf d)) (.type "int") = some (isIntLike d) := kit_d _ _ (fun d => by
  cases d with
  | none => exact (show kitB "NoneType" "int" = some false by decide +kernel)
  | bool _ => exact (show kitB "bool" "int" = some true by decide +kernel)
  | int _ => exact (show kitB "int" "int" = some true by decide +kernel)
  | str _ => exact (show kitB "str" "int" = some false by decide +kernel)
  | list _ => exact (show kitB "list" "int" = some false by decide +kernel)
  | tuple _ => exact (show kitB "tuple" "int" = some false by decide +kernel)
  | dict _ => exact (show kitB "dict" "int" = some false by decide +kernel)) d
theorem isx_bool (d : PyData) : PySem.W.kitOne K (.type (kindOf d)) (.type "bool") = some (isBool d) := kit_d _ _ (fun d => by
  cases d with
  | none => exact (show kitB "NoneType" "bool" = some false by decide +kernel)
  | bool _ => exact (show kitB "bool" "bool" = some true by decide +kernel)
  | int _ => exact (show kitB "int" "bool" = some false by decide +kernel)
  | str _ => exact (show kitB "str" "bool" = some false by decide +kernel)
  | list _ => exact (show kitB "list" "bool" = some false by decide +kernel)
  | tuple _ => exact (show kitB "tuple" "bool" = some false by decide +kernel)
  | dict _ => exact (show kitB "dict" "bool" = some false by decide +kernel)) d
def isStrD : PyData → Bool
  | .str _ => true
  | _ => false
theorem isx_str (d : PyData) : PySem.W.kitOne K (.type (kindOf d)) (.type "str") = some (isStrD d) := kit_d _ _ (fun d => by
  cases d with
  | none => exact (show kitB "NoneType" "str" = some false by decide +kernel)
  | bool _ => exact (show kitB "bool" "str" = some false by decide +kernel)
  | int _ => exact (show kitB "int" "str" = some false by decide +kernel)
  | str _ => exact (show kitB "str" "str" = some true by decide +kernel)
  | list _ => exact (show kitB "list" "str" = some false by decide +kernel)
  | tuple _ => exact (show kitB "tuple" "str" = some false by decide +kernel)
  | dict _ => exact (show kitB "dict" "str" = some false by decide +kernel)) d
end
/-! ### its text -/
mutual
/-- ints of at most 4300 figures, no dict but empty ones -/
def tellE : PyData → Bool
  | .int i => decide (i.natAbs < 10 ^ 4300)
  | .list xs => tellEAll xs
  | .tuple xs => tellEAll xs
  | .dict kvs => kvs.isEmpty
  | .none => true
  | .bool _ => true
  | .str _ => true
def tellEAll : List PyData → Bool
  | [] => true
  | x :: xs => tellE x && tellEAll xs
end
section
variable {X : Cx} {pins : List (Addr × Obj)} {σ : L2.St} {H : Hp} {s : Shared}
theorem dct_at {a : Addr} (I : Inv X pins σ H s) (ha : H a = some (.dK [])) : (a == sysModules) = false ∧ ∃ o n, s.heap.get? a = some o ∧ o.cls = .type "dict" ∧ o.data = .dict #[] n := by
  obtain ⟨_, hs, vs, kv, o, es, ep, e1, e2, e3, e4, e5, _⟩ := I.hok a _ ha
  cases kv
  have e6 : es = #[] := by
    cases es with
    | mk l => cases l with
      | nil => rfl
      | cons y l => cases e5
  subst e6
  exact ⟨hs, o, ep, e1, e2.1, e3⟩
mutual
theorem dx_told (hn : s.heap.NoDigits) (I : Inv X pins σ H s) : ∀ (d : PyData) (v : V) (u : Value), Dx X.K H v d → RelV v u →
    ∃ as, Reads s.heap u d as ∧ (tellE d = true → d.shown.length ≤ sizeLine → ∃ bs, ReadAtMost s.heap d.depth bs ∧ ReprK X.prog X.w bs s.heap d.depth u d.shown)
  | .none, _, _, h, r => by
    cases h
    cases r
    exact ⟨_, .none, fun _ _ => ⟨[], (fun _ h => nomatch h), by simp only [PyData.shown]; exact .of_is ReprIs.none _ _ _⟩⟩
  | .bool b, _, _, h, r => by
    cases h
    cases r
    exact ⟨_, .bool b, fun _ _ => ⟨[], (fun _ h => nomatch h), by simp only [PyData.shown]; exact .of_is (ReprIs.bool b) _ _ _⟩⟩
  | .int i, _, _, h, r => by
    cases h
    obtain ⟨t, rfl⟩ := r
    exact ⟨_, .int i t, fun ht _ => ⟨[], (fun _ h => nomatch h), by simp only [PyData.shown]; exact reprK_int hn (of_decide_eq_true (by simpa only [tellE] using ht)) _⟩⟩
  | .str x, _, _, h, r => by
    cases h
    obtain ⟨t, rfl⟩ := r
    exact ⟨_, .str x t, fun _ hz => ⟨[], (fun _ h => nomatch h), by simp only [PyData.shown] at hz ⊢; exact .of_is (ReprIs.str x t hz) _ _ _⟩⟩
  | .list ds, _, _, h, r => by
    cases h with
    | lst hs ha =>
      rename_i p xs
      cases r
      obtain ⟨its, rv, ⟨o, n, ho, hc, hw, hd⟩, _⟩ := I.list hs
      obtain ⟨as, q4, hk⟩ := dxA_told hn I ds _ its ha rv
      have whole : Reads s.heap (.ref p) (.list ds) _ := .list ho hc hd q4
      refine ⟨_, whole, fun ht hz => ?_⟩
      have hz2 : (listText (PyData.shownAll ds)).length ≤ sizeLine := by simpa only [PyData.shown] using hz
      obtain ⟨bs, rb, kb⟩ := hk (by simpa only [tellE] using ht) fun t m => Nat.le_trans (listText_mem_le m) hz2
      refine ⟨p :: bs, ReadAtMost.cons whole (by simp only [PyData.depth]; omega) rb, ?_⟩
      have notIn : p ∉ bs := not_mem_of_deeper whole (by simp only [PyData.depth]; omega) rb
      simp only [PyData.depth, PyData.shown]
      cases its with
      | nil =>
        cases q4
        simp only [PyData.shownAll, listText_nil]
        exact ReprK.listEmpty ho hc hd
      | cons y l => exact ReprK.list ho hc hd notIn (by simpa using kb.length_eq) fun i y e => kb.item i y (by simpa using e)
  | .tuple ds, _, _, h, r => by
    cases h with
    | tup hs ha =>
      rename_i p xs
      cases r
      obtain ⟨its, rv, ⟨o, ho, hc, n, hd⟩, _⟩ := I.tuple hs
      obtain ⟨as, q4, hk⟩ := dxA_told hn I ds _ its ha rv
      have whole : Reads s.heap (.ref p) (.tuple ds) _ := .tuple ho hc hd q4
      refine ⟨_, whole, fun ht hz => ?_⟩
      have hz2 : (tupleText (PyData.shownAll ds)).length ≤ sizeLine := by simpa only [PyData.shown] using hz
      obtain ⟨bs, rb, kb⟩ := hk (by simpa only [tellE] using ht) fun t m => Nat.le_trans (tupleText_mem_le m) hz2
      refine ⟨p :: bs, ReadAtMost.cons whole (by simp only [PyData.depth]; omega) rb, ?_⟩
      have notIn : p ∉ bs := not_mem_of_deeper whole (by simp only [PyData.depth]; omega) rb
      simp only [PyData.depth, PyData.shown]
      exact ReprK.tuple ho hc hd notIn (by simpa using kb)
  | .dict kvs, _, _, h, r => by
    cases h with
    | dct hp =>
      rename_i p
      cases r
      obtain ⟨hs, o, n, h1, h2, h3⟩ := dct_at I hp
      have whole : Reads s.heap (.ref p) (.dict []) ([p] ++ []) := .dict (as := []) (bs := []) h1 h2 h3 .nil .nil
      refine ⟨_, whole, fun _ _ => ⟨[p], ReadAtMost.cons whole (Nat.le_refl _) (fun _ h => nomatch h), ?_⟩⟩
      have z := ReprK.dict (prog := X.prog) (w := X.w) (as := []) (d := 0) (ps := []) h1 h2 h3 hs (by simp) .nil
      simp only [PyData.depth, PyData.depthKv, PyData.shown, PyData.shownKv]
      exact z
theorem dxA_told (hn : s.heap.NoDigits) (I : Inv X pins σ H s) : ∀ (ds : List PyData) (vs : List V) (us : List Value), DxAll X.K H vs ds → Vals vs us →
    ∃ as, ReadsAll s.heap us ds as ∧ (tellEAll ds = true → (∀ t ∈ PyData.shownAll ds, t.length ≤ sizeLine) → ∃ bs, ReadAtMost s.heap (PyData.depthAll ds) bs ∧ ReprAllK X.prog X.w bs s.heap (PyData.depthAll ds) us (PyData.shownAll ds))
  | [], _, _, h, r => by
    cases h
    cases r
    exact ⟨_, .nil, fun _ _ => ⟨[], (fun _ h => nomatch h), by simp only [PyData.shownAll]; exact .nil⟩⟩
  | d :: ds, _, _, h, r => by
    cases h with
    | cons h1 h2 =>
      cases r with
      | cons r1 r2 =>
        obtain ⟨as1, q1, k1⟩ := dx_told hn I d _ _ h1 r1
        obtain ⟨as2, q2, k2⟩ := dxA_told hn I ds _ _ h2 r2
        refine ⟨_, .cons q1 q2, fun ht hz => ?_⟩
        have ht2 : tellE d = true ∧ tellEAll ds = true := by simpa only [tellEAll, Bool.and_eq_true] using ht
        obtain ⟨c1, rc1, e1⟩ := k1 ht2.1 (hz _ (by simp only [PyData.shownAll]; exact List.mem_cons_self))
        obtain ⟨c2, rc2, e2⟩ := k2 ht2.2 fun t m => hz t (by simp only [PyData.shownAll]; exact List.mem_cons_of_mem _ m)
        refine ⟨c1 ++ c2, (rc1.mono ?_).append (rc2.mono ?_), ?_⟩
        · simp only [PyData.depthAll]; exact Nat.le_max_left _ _
        · simp only [PyData.depthAll]; exact Nat.le_max_right _ _
        · simp only [PyData.depthAll, PyData.shownAll]
          exact .cons ((e1.more fun b m => List.mem_append_left _ m).level_le (Nat.le_max_left _ _)) (e2.more_le (fun b m => List.mem_append_right _ m) (Nat.le_max_right _ _))
end
end
section
variable {X : Cx}
def rReprX (K : PySem.W.Frag) : List V → Hp → VK → Prop := fun xs Hx R => ∃ x d, xs = [x] ∧ Dx K Hx x d ∧ tellE d = true ∧ d.depth ≤ 60 ∧ d.shown.length ≤ sizeLine ∧ R (.str d.shown) Hx
theorem call_reprX (hn : X.base.NoDigits) (hg : X.A.guards = some []) {k : Nat} (hr : Room k X.A) : CallR X (.builtin "repr") (rReprX X.K) := by
  intro pins st σ Hx xs us R I rv h
  obtain ⟨x, d, rfl, hd, ht, hdep, hz, q⟩ := h
  obtain ⟨u, rfl, rx⟩ : ∃ u, us = [u] ∧ RelV x u := by
    cases rv with
    | cons a b => cases b; exact ⟨_, rfl, a⟩
  have hu := hr.units
  have ndig := digs hn I
  cases hd with
  | non =>
    obtain rfl : u = Value.none := rx
    simp only [PyData.shown] at q
    exact PySem.P.repr_of_none ⟨.str _, Hx, I.tok _, ⟨_, rfl⟩, q⟩
  | bl b =>
    obtain rfl : u = Value.bool b := rx
    simp only [PyData.shown] at q
    exact PySem.P.repr_of_bool ⟨.str _, Hx, I.tok _, ⟨_, rfl⟩, q⟩
  | int i =>
    obtain ⟨t, rfl⟩ := rx
    simp only [PyData.shown] at q
    exact int_repr (by omega) ndig (of_decide_eq_true (by simpa only [tellE] using ht)) ⟨.str _, Hx, I.tok _, ⟨_, rfl⟩, q⟩
  | str y =>
    obtain ⟨t, rfl⟩ := rx
    simp only [PyData.shown] at q hz
    exact PySem.P.repr_of_str ⟨.str _, Hx, I.tok _, ⟨_, rfl⟩, q⟩ hz
  | dct hp =>
    rename_i p
    obtain rfl : u = Value.ref p := rx
    obtain ⟨hs, o, n, h1, h2, h3⟩ := dct_at I hp
    have e : PyData.shown (.dict []) = "{}" := by decide +kernel
    rw [e] at q
    exact repr_dict0 h1 h2 h3 hs hg (by omega) fun h2 u tk hk => ⟨.str _, Hx, I.kept (t' := tk) hk, ⟨_, rfl⟩, q⟩
  | lst hs ha =>
    rename_i p xs ds
    obtain rfl : u = Value.ref p := rx
    obtain ⟨its, rv, ⟨o, n, ho, hc, hw, hd⟩, _⟩ := I.list hs
    obtain ⟨as, q4, hk⟩ := dxA_told ndig I ds _ its ha rv
    have whole : Reads st.heap (.ref p) (.list ds) _ := .list ho hc hd q4
    simp only [PyData.depth] at hdep
    simp only [PyData.shown] at q hz
    obtain ⟨bs, rb, kb⟩ := hk (by simpa only [tellE] using ht) fun t m => Nat.le_trans (listText_mem_le m) hz
    have notIn : p ∉ bs := not_mem_of_deeper whole (by simp only [PyData.depth]; omega) rb
    refine call_repr_slot (by omega) ⟨o, ho, hc⟩ F.slot_list_repr.toG ?_
    cases its with
    | nil =>
      cases q4
      simp only [PyData.shownAll, listText_nil] at q
      exact call_list_repr_empty ⟨o, ho, hc⟩ ho hd ⟨_, _, rfl, ⟨.str _, Hx, I.tok _, ⟨_, rfl⟩, q⟩⟩
    | cons y l => exact call_list_reprK ho hc hd notIn (by simpa using kb.length_eq) (fun i y e => kb.item i y (by simpa using e)) hg (fun b _ => Clear.nil b) (by show X.A.units + 1 + _ < _; omega) (fun _ _ e => e) (fun h2 u tk hk => ⟨_, _, rfl, ⟨.str _, Hx, I.kept (t' := tk) hk, ⟨_, rfl⟩, q⟩⟩) hz
  | tup hs ha =>
    rename_i p xs ds
    obtain rfl : u = Value.ref p := rx
    obtain ⟨its, rv, ⟨o, ho, hc, n, hd⟩, _⟩ := I.tuple hs
    obtain ⟨as, q4, hk⟩ := dxA_told ndig I ds _ its ha rv
    have whole : Reads st.heap (.ref p) (.tuple ds) _ := .tuple ho hc hd q4
    simp only [PyData.depth] at hdep
    simp only [PyData.shown] at q hz
    obtain ⟨bs, rb, kb⟩ := hk (by simpa only [tellE] using ht) fun t m => Nat.le_trans (tupleText_mem_le m) hz
    have notIn : p ∉ bs := not_mem_of_deeper whole (by simp only [PyData.depth]; omega) rb
    refine call_repr_slot (by omega) ⟨o, ho, hc⟩ F.slot_tuple_repr ?_
    exact call_tuple_reprK ho hc hd notIn (by simpa using kb) hg (fun b _ => Clear.nil b) (by show X.A.units + 1 + _ < _; omega) (fun _ _ e => e) (fun h2 u tk hk => ⟨_, _, rfl, ⟨.str _, Hx, I.kept (t' := tk) hk, ⟨_, rfl⟩, q⟩⟩) hz
theorem k_reprX {K : PySem.W.Frag} {k : Nat} (hn : X.base.NoDigits) (hg : X.A.guards = some []) (hr : Room k X.A) (e : X.K = K := by rfl) : CallR X (.builtin "repr") (rReprX K) := e ▸ call_reprX hn hg hr
end
end SG

/-! Comparing with an empty list or tuple, whatever is held; whole numbers and truths put together with one. -/
namespace SG
open PySem PySem.Spec PyProof.Rows L2
section
variable {X : Cx}
/-- both lists, or both tuples, the second one empty -/
def NilPair (K : PySem.W.Frag) (H : Hp) (a b : Addr) (xs : List V) : Prop := (SqT K H a xs ∧ SqT K H b []) ∨ (SqL K H a xs ∧ SqL K H b [])
def rEqE (K : PySem.W.Frag) : R2 := fun x y H Q => ∃ a b xs, x = .ref a ∧ y = .ref b ∧ NilPair K H a b xs ∧ Q (.bl xs.isEmpty) H
def rNeE (K : PySem.W.Frag) : R2 := fun x y H Q => ∃ a b xs, x = .ref a ∧ y = .ref b ∧ NilPair K H a b xs ∧ Q (.bl (!xs.isEmpty)) H
theorem size_of_vals {xs : List V} {us : List Value} (r : Vals xs us) : us.toArray.size = xs.length := by rw [List.size_toArray, r.length]
theorem vals_nil {us : List Value} (r : Vals [] us) : us = [] := by cases r; rfl
theorem op_eqE (hu : X.A.units < cLine) : OpR X (compareOp .Eq) (rEqE X.K) := by
  intro pins s σ H x y v u Q I rx ry h
  obtain ⟨a, b, xs, rfl, rfl, h, q⟩ := h
  cases rx
  cases ry
  rcases h with ⟨ha, hb⟩ | ⟨ha, hb⟩
  · obtain ⟨is1, r1, p1, _⟩ := I.tuple ha
    obtain ⟨is2, r2, p2, _⟩ := I.tuple hb
    obtain rfl := vals_nil r2
    have e := size_of_vals r1
    refine SeqAt.eq_tupleAt p1 p2 hu (e := fun _ => true) (fun j _ h2 => absurd h2 (by simp)) ⟨.bl xs.isEmpty, H, I, ?_, q⟩
    show Value.bool _ = Value.bool _
    congr 1
    rw [e]
    cases xs <;> simp
  · obtain ⟨is1, r1, p1, _⟩ := I.list ha
    obtain ⟨is2, r2, p2, _⟩ := I.list hb
    obtain rfl := vals_nil r2
    have e := size_of_vals r1
    cases xs with
    | nil => exact SeqAt.eq_listAt p1.isList p2.isList (by rw [e]; rfl) hu (e := fun _ => true) (fun j _ h2 => absurd h2 (by simp)) ⟨.bl true, H, I, by rw [e]; rfl, q⟩
    | cons z zs => exact SeqAt.eq_list_lengthsAt p1.isList p2.isList (by rw [e]; simp) hu ⟨.bl false, H, I, rfl, q⟩
theorem op_neE (hu : X.A.units < cLine) : OpR X (compareOp .NotEq) (rNeE X.K) := by
  intro pins s σ H x y v u Q I rx ry h
  obtain ⟨a, b, xs, rfl, rfl, h, q⟩ := h
  cases rx
  cases ry
  rcases h with ⟨ha, hb⟩ | ⟨ha, hb⟩
  · obtain ⟨is1, r1, p1, _⟩ := I.tuple ha
    obtain ⟨is2, r2, p2, _⟩ := I.tuple hb
    obtain rfl := vals_nil r2
    have e := size_of_vals r1
    refine SeqAt.RcNeAt.tuples p1 p2 hu (e := fun _ => true) (fun j _ h2 => absurd h2 (by simp)) X.prog X.w X.xe _ ⟨.bl (!xs.isEmpty), H, I, ?_, q⟩
    show Value.bool _ = Value.bool _
    congr 1
    rw [e]
    cases xs <;> simp
  · obtain ⟨is1, r1, p1, _⟩ := I.list ha
    obtain ⟨is2, r2, p2, _⟩ := I.list hb
    obtain rfl := vals_nil r2
    have e := size_of_vals r1
    cases xs with
    | nil => exact SeqAt.RcNeAt.lists p1.isList p2.isList (by rw [e]; rfl) hu (e := fun _ => true) (fun j _ h2 => absurd h2 (by simp)) X.prog X.w X.xe _ ⟨.bl false, H, I, by rw [e]; rfl, q⟩
    | cons z zs => exact SeqAt.RcNeAt.lists_lengths p1.isList p2.isList (by rw [e]; simp) hu X.prog X.w X.xe _ ⟨.bl true, H, I, rfl, q⟩
theorem k_eqE {K : PySem.W.Frag} (hu : X.A.units + 64 < cLine) (e : X.K = K := by rfl) : OpR X (compareOp .Eq) (rEqE K) := e ▸ op_eqE (by omega)
theorem k_neE {K : PySem.W.Frag} (hu : X.A.units + 64 < cLine) (e : X.K = K := by rfl) : OpR X (compareOp .NotEq) (rNeE K) := e ▸ op_neE (by omega)
/-! ### whole numbers and truths -/
/-- the number that a whole number, or a truth, counts as -/
def num : PyData → Int
  | .int i => i
  | .bool b => if b = true then 1 else 0
  | _ => 0
/-- x is the whole number or truth d -/
def NumV (x : V) (d : PyData) : Prop := (∃ i, x = .int i ∧ d = .int i) ∨ (∃ b, x = .bl b ∧ d = .bool b)
def rAddN : R2 := fun x y H Q => ∃ d j, NumV x d ∧ y = .int j ∧ Q (.int (num d + j)) H
def rSubN : R2 := fun x y H Q => ∃ d j, NumV x d ∧ y = .int j ∧ Q (.int (num d - j)) H
def rEqN : R2 := fun x y H Q => ∃ d j, NumV x d ∧ y = .int j ∧ Q (.bl (num d == j)) H
theorem op_addN : OpR X (binaryOp .Add) rAddN := by
  intro pins s σ H x y v u Q I rx ry h
  obtain ⟨d, j, hx, rfl, q⟩ := h
  obtain ⟨t, rfl⟩ := ry
  rcases hx with ⟨i, rfl, rfl⟩ | ⟨b, rfl, rfl⟩
  · obtain ⟨t1, rfl⟩ := rx
    exact add_int ⟨.int (i + j), H, I.tok _, ⟨_, rfl⟩, q⟩
  · cases rx
    exact IntBool.add_bool_int ⟨.int _, H, I.tok _, ⟨_, rfl⟩, q⟩
theorem op_subN : OpR X (binaryOp .Sub) rSubN := by
  intro pins s σ H x y v u Q I rx ry h
  obtain ⟨d, j, hx, rfl, q⟩ := h
  obtain ⟨t, rfl⟩ := ry
  rcases hx with ⟨i, rfl, rfl⟩ | ⟨b, rfl, rfl⟩
  · obtain ⟨t1, rfl⟩ := rx
    exact sub_int ⟨.int (i - j), H, I.tok _, ⟨_, rfl⟩, q⟩
  · cases rx
    exact IntBool.sub_bool_int ⟨.int _, H, I.tok _, ⟨_, rfl⟩, q⟩
theorem op_eqN : OpR X (compareOp .Eq) rEqN := by
  intro pins s σ H x y v u Q I rx ry h
  obtain ⟨d, j, hx, rfl, q⟩ := h
  obtain ⟨t, rfl⟩ := ry
  rcases hx with ⟨i, rfl, rfl⟩ | ⟨b, rfl, rfl⟩
  · obtain ⟨t1, rfl⟩ := rx
    exact SeqAt.RcAt.int_int i t1 j t X.prog X.w X.xe _ ⟨.bl _, H, I, rfl, q⟩
  · cases rx
    exact SeqAt.RcAt.bool_int b j t X.prog X.w X.xe _ ⟨.bl _, H, I, rfl, q⟩
/-- str of a whole number or a truth -/
def numT : PyData → Str
  | .int i => Str.ofString (toString i)
  | .bool b => if b = true then "True" else "False"
  | _ => ""
def rStrN : List V → Hp → VK → Prop := fun xs H Q => ∃ x d, xs = [x] ∧ NumV x d ∧ (num d).natAbs.log2 < 1920 ∧ Q (.str (numT d)) H
theorem call_strN : CallR X (.type "str") rStrN := by
  intro pins s σ H xs us Q I r h
  obtain ⟨x, d, rfl, hx, hl, q⟩ := h
  rcases hx with ⟨i, rfl, rfl⟩ | ⟨b, rfl, rfl⟩
  · exact call_str_int pins s σ H [.int i] us Q I r ⟨i, rfl, hl, q⟩
  · obtain ⟨u, rfl, rx⟩ : ∃ u, us = [u] ∧ RelV (.bl b) u := by
      cases r with
      | cons a c => cases c; exact ⟨_, rfl, a⟩
    cases rx
    exact PySem.P.str_of_bool ⟨.str _, H, I.tok _, ⟨_, rfl⟩, q⟩
end
end SG

/-! Turned round: a tuple or a text; a text twice. -/
namespace SG
open PySem PySem.Spec PyProof.Rows L2
section
variable {prog : Program} {w : World} {A : Around} {Er : Value → Shared → Prop} {s : Shared}
theorem turn_idx {α : Type} (xs : Array α) : (List.range xs.size).filterMap (fun (j : Nat) => xs[(((xs.size : Int) - 1) + (j : Int) * (-1)).toNat]?) = xs.toList.reverse := by
  have e : (fun (j : Nat) => xs[(((xs.size : Int) - 1) + (j : Int) * (-1)).toNat]?) = (fun j => xs[j]?) ∘ fun j : Nat => ((((xs.size : Int) - 1) + (j : Int) * (-1)).toNat) := rfl
  have m : (List.range xs.size).map (fun j : Nat => ((((xs.size : Int) - 1) + (j : Int) * (-1)).toNat)) = (List.range xs.size).map fun j => xs.size - 1 - j := by
    apply List.map_congr_left
    intro j hj
    have := List.mem_range.mp hj
    omega
  rw [e, ← List.filterMap_map, m, PySem.W.krv_range, List.filterMap_reverse, PySem.W.krv_all]
theorem turn_applied {sl : Addr} {vl vu vs : Value} {n : Nat} {Q : Int × Int × Nat → Shared → Prop} (hs : s.heap.IsSliceOf sl vl vu vs) (pl : IsPart vl none) (pu : IsPart vu none) (ps : IsPart vs (some (-1)))
    (h : Q ((n : Int) - 1, -1, n) s) : wpAny (model prog w) A (Builtin.Slice.sliceApplied (.ref sl) (pure (n : Int))) Q Er s := by
  obtain ⟨ob, g1, g2, g3⟩ := id hs
  unfold Builtin.Slice.sliceApplied Builtin.Slice.sliceFields
  refine wpAny_bind (wpAny_bind (wpAny_field g1 g3 (x := vl) rfl (wpAny_bind (wpAny_field g1 g3 (x := vu) rfl (wpAny_bind (wpAny_field g1 g3 (x := vs) rfl (wpAny_pure ?_)))))))
  refine wpAny_bind (HT.slicePart_ ps ?_)
  show wpAny _ _ (if ((-1 : Int) == 0) = true then _ else _) _ _ s
  rw [if_neg (by decide)]
  refine wpAny_bind (HT.slicePart_ pl (wpAny_bind (HT.slicePart_ pu (wpAny_bind (wpAny_pure ?_)))))
  show wpAny _ _ (match Builtin.Slice.sliceAdjust none none (-1) (n : Int) with | (lo, hi) => pure (lo, (-1 : Int), Builtin.Slice.slicePlaces lo hi (-1))) _ _ s
  have e1 : Builtin.Slice.sliceAdjust none none (-1) (n : Int) = ((n : Int) - 1, -1) := by
    unfold Builtin.Slice.sliceAdjust
    simp
  rw [e1]
  show wpAny _ _ (pure ((n : Int) - 1, (-1 : Int), Builtin.Slice.slicePlaces ((n : Int) - 1) (-1) (-1))) _ _ s
  have e2 : Builtin.Slice.slicePlaces ((n : Int) - 1) (-1) (-1) = n := by
    unfold Builtin.Slice.slicePlaces
    rw [if_neg (show ¬ ((-1 : Int) > 0) by decide)]
    by_cases hn : n = 0
    · subst hn
      simp
    · rw [if_pos (show (n : Int) - 1 > -1 by omega)]
      have : ((n : Int) - 1 - -1 - 1) / (- -1) = (n : Int) - 1 := by
        rw [show (- -1 : Int) = 1 by decide, Int.ediv_one]
        omega
      omega
  rw [e2]
  exact wpAny_pure h
theorem getItem_tuple_turn {t sl : Addr} {its : Array Value} {vl vu vs : Value} {Q : Value → Shared → Prop} (ht : IsTup s.heap t its) (hs : s.heap.IsSliceOf sl vl vu vs) (pl : IsPart vl none) (pu : IsPart vu none) (ps : IsPart vs (some (-1)))
    (hz : its.size ≤ sizeLine) (h : Q (.ref s.heap.objs.size) { s with heap := s.heap.push { cls := .type "tuple", data := .seq its.toList.reverse.toArray } }) : wpAny (model prog w) A (getItem (.ref t) (.ref sl)) Q Er s := by
  obtain ⟨ob, g1, g2, g3⟩ := id hs
  have hT : s.TypeIs (.ref sl) "slice" := ⟨ob, g1, g2⟩
  unfold getItem
  (try with_reducible refine wpAny_holding ?_); (first | refine wpAny_bind (wpAny_pure ?_) | skip)
  refine' wpAny_bind (wpAny_sequenceKey ht.typeIs (by decide) ?_)
  refine wpAny_bind (wpAny_callSpecial?_slot (name := Str.ofString "__getitem__") ht.typeIs PyProof.Rows.slot_tuple_getitem (wpAny_call_entry PyProof.Rows.slot_tuple_getitem ht.typeIs entry_tuple_getitem ?_ (args_tuple_getitem _ _)))
  show wpAny (model prog w) _ (Builtin.Tuple.tupleItemsOf (.ref t) >>= _) _ _ s
  refine' wpAny_bind (tupleItemsOf_ ht (wpAny_bind (wpAny_typeOf hT ?_)))
  rw [if_pos (by decide)]
  refine wpAny_bind (turn_applied hs pl pu ps ?_)
  have hno : ¬ ((((its.size : Int) - 1) == 0 && (-1 : Int) == 1 && its.size == its.size) = true) := by simp
  show wpAny _ _ (if (((its.size : Int) - 1) == 0 && (-1 : Int) == 1 && its.size == its.size) = true then _ else _) _ _ s
  rw [if_neg hno, turn_idx]
  have hsz : sizeOk (.seq its.toList.reverse.toArray) := by
    show its.toList.reverse.toArray.size ≤ sizeLine
    rw [List.size_toArray, List.length_reverse, Array.length_toList]
    exact hz
  have fin := h
  first
    | exact wpAny_bind (m := Builtin.Tuple.tupleExact _) (wpAny_newObj_type (wpAny_pure ⟨_, rfl, wpAny_pure fin⟩) hsz)
    | exact wpAny_bind (m := Builtin.Tuple.tupleExact _) (wpAny_newObj_type (wpAny_bind (wpAny_pure (wpAny_pure ⟨_, rfl, wpAny_pure fin⟩))) hsz)
    | exact wpAny_bind (wpAny_bind (m := Builtin.Tuple.tupleExact _) (wpAny_newObj_type (wpAny_pure (wpAny_pure ⟨_, rfl, wpAny_pure fin⟩)) hsz))
    | exact wpAny_bind (wpAny_bind (m := Builtin.Tuple.tupleExact _) (wpAny_newObj_type (wpAny_pure ⟨_, rfl, wpAny_pure fin⟩) hsz))
end
section
variable {X : Cx}
/-- a tuple or a text turned round -/
def tRevX (K : PySem.W.Frag) (te : TE) : TE := fun σ H Q => te σ H fun x H1 => (∃ a xs, x = .ref a ∧ SqT K H1 a xs ∧ ∀ p, H1 p = none → Q (.ref p) (upd H1 p (.tup xs.reverse))) ∨
  (∃ z : Str, x = .str z ∧ z.length ≤ 100000 ∧ ∀ z2 : Str, z2.cps.toList = z.cps.toList.reverse → Q (.str z2) H1)
theorem pe_revX {K : PySem.W.Frag} {e : Expr} {te : TE} {k : Nat} {p1 p2 p3 pos : Pos} (he : PE X e te) (eK : X.K = K := by rfl) :
    PE X (.Subscript e (.Slice none none (some (.UnaryOp .USub (.Constant (.int 1) k p1) p2)) p3) pos) (tRevX K te) := by
  subst eK
  refine ⟨fun pins s σ H Q I h => ?_⟩
  refine Subscript_ (thn (he.run pins s σ H _ I h) fun v s1 ⟨x, H1, I1, r1, q1⟩ => ?_)
  have hstep : PO X (some (.UnaryOp .USub (.Constant (.int 1) k p1) p2)) (tPart (tUn (rU fun i => .int (-i)) (tC (.int 1)))) := po_some (pe_un un_neg pe_int)
  refine wpAny_Slice (thn (po_none.run pins s1 σ H1 (fun o Ha => o = none ∧ Ha = H1) I1 ⟨rfl, rfl⟩) fun vl s2 ⟨lo, H2, I2, pl, e1, e2⟩ => ?_)
  subst e1 e2
  refine thn (po_none.run pins s2 σ H2 (fun o Ha => o = none ∧ Ha = H2) I2 ⟨rfl, rfl⟩) fun vu s3 ⟨hi, H3, I3, pu, e3, e4⟩ => ?_
  subst e3 e4
  refine thn (hstep.run pins s3 σ H3 (fun o Ha => o = some (-1) ∧ Ha = H3) I3 ⟨1, rfl, -1, rfl, rfl, rfl⟩) fun vs s4 ⟨o, H4, I4, ps, e5, e6⟩ => ?_
  subst e5 e6
  have I5 : Inv X pins σ H4 { s4 with heap := s4.heap.push { cls := .type "slice", data := .fields #[vl, vu, vs] } } := I4.kept (t' := s4.toks) fun b ob q => Heap.get?_push_of_some _ q
  rcases q1 with ⟨a, xs, ex, hx, q⟩ | ⟨z, ex, hz, q⟩
  · subst ex
    cases r1
    obtain ⟨its, r, ht, hz⟩ := I5.tuple hx
    have hlen := r.length
    refine PyProof.Rows.tail_any (ops := [.ref a, .ref s4.heap.objs.size]) ht.typeIs PyProof.Rows.slot_tuple_getitem.lookup ?_ (by with_unfolding_all rfl)
    refine getItem_tuple_turn ht (Heap.IsSliceOf.new _ vl vu vs) pl pu ps (by rw [List.size_toArray]; omega) ?_
    refine ⟨.ref _, _, I5.laid (t' := s4.toks) (o := .tup xs.reverse) (fun b ob q => Heap.get?_push_of_some _ q) (Nat.le_refl _) ?_, rfl, q _ (I5.hok.fresh (Nat.le_refl _))⟩
    exact ⟨by rw [List.length_reverse]; exact hz, _, r.reverse, IsTup.new _ _⟩
  · subst ex
    obtain ⟨t, rfl⟩ := r1
    have hsl : ({ s4 with heap := s4.heap.push { cls := .type "slice", data := .fields #[vl, vu, vs] } } : Shared).heap.IsSliceOf s4.heap.objs.size vl vu vs := Heap.IsSliceOf.new _ vl vu vs
    obtain ⟨lo, rfl, e1⟩ := IsPart.raw pl
    obtain ⟨hi, rfl, e2⟩ := IsPart.raw pu
    obtain ⟨st, rfl, e3⟩ := IsPart.raw ps
    obtain ⟨ob, g1, g2, g3⟩ := hsl
    have n1 : lo = none := by cases lo with | none => rfl | some _ => cases e1
    have n2 : hi = none := by cases hi with | none => rfl | some _ => cases e2
    obtain ⟨t3, rfl⟩ : ∃ t3, st = some (-1, t3) := by
      cases st with
      | none => cases e3
      | some p =>
        obtain ⟨c, t3⟩ := p
        have e4 : c = -1 := by simpa using e3
        exact ⟨t3, by rw [e4]⟩
    subst n1 n2
    refine PyProof.Rows.tail_any (ops := [.str z t, .ref s4.heap.objs.size]) (typeIs_str _ _ _) F.slot_str_getitem.lookup ?_ (by with_unfolding_all rfl)
    refine wpAny_getItem_str_slice (l := none) (u := none) (st := some (-1, t3)) ⟨ob, g1, g2, g3⟩ rfl ?_
    have hpick : (slicePicked z none none (some (-1, t3))).filterMap (z.cps[·]?) = z.cps.toList.reverse := by
      have e : slicePicked z none none (some (-1, t3)) = (List.range z.cps.size).map fun j => z.cps.size - 1 - j := PySem.W.krv_sliceRange z.cps.size
      rw [e, PySem.W.krv_range, List.filterMap_reverse, PySem.W.krv_all]
    unfold sliceMade
    rw [if_neg (by simp), hpick]
    have hl : (⟨z.cps.toList.reverse.toArray⟩ : Str).length ≤ sizeLine := by
      show z.cps.toList.reverse.toArray.size ≤ sizeLine
      rw [List.size_toArray, List.length_reverse, Array.length_toList]
      exact Nat.le_trans hz (by decide)
    exact ⟨hl, .str ⟨z.cps.toList.reverse.toArray⟩, H4, I5.tok _, ⟨_, rfl⟩, q _ (by simp)⟩
/-- a text twice -/
def rTwice : R2 := fun x y H Q => ∃ z : Str, x = .str z ∧ y = .int 2 ∧ z.length ≤ 100000 ∧ ∀ z2 : Str, z2.cps.toList = z.cps.toList ++ z.cps.toList → Q (.str z2) H
theorem op_twice : OpR X (binaryOp .Mult) rTwice := by
  intro pins s σ H x y v u Q I rx ry h
  obtain ⟨z, rfl, rfl, hz, q⟩ := h
  obtain ⟨t, rfl⟩ := rx
  obtain ⟨t2, rfl⟩ := ry
  have zl : z.length = z.cps.size := rfl
  refine PySem.P.mul_str (by decide) (fun _ _ => by omega) (fun _ _ => ?_) ?_
  · show decide (z.length * (2 : Int).toNat > sizeLine) = false
    have h2 : (2 : Int).toNat = 2 := rfl
    rw [h2, sizeLine_eq]
    exact decide_eq_false (by omega)
  · rw [if_neg (by decide)]
    by_cases h0 : ((2 : Int) == 1 || z.length == 0) = true
    · rw [if_pos h0]
      have e0 : z.cps.toList = [] := by
        have h1 : z.length = 0 := by simpa using h0
        exact List.eq_nil_of_length_eq_zero (by rw [Array.length_toList, ← zl, h1])
      exact ⟨.str z, H, I, ⟨_, rfl⟩, q z (by rw [e0]; rfl)⟩
    · rw [if_neg h0]
      have e : (List.replicate (2 : Int).toNat z.cps).foldl (· ++ ·) #[] = z.cps ++ z.cps := by
        show (#[] ++ z.cps) ++ z.cps = z.cps ++ z.cps
        rw [Array.empty_append]
      rw [e]
      have hl : (⟨z.cps ++ z.cps⟩ : Str).length ≤ sizeLine := by
        show (z.cps ++ z.cps).size ≤ sizeLine
        rw [Array.size_append, sizeLine_eq]
        omega
      exact ⟨hl, .str ⟨z.cps ++ z.cps⟩, H, I.tok _, ⟨_, rfl⟩, q _ (by simp)⟩
end
end SG

/-! remove of pairs of whole numbers; the set of a tuple of whole numbers. -/
namespace SG
open PySem PySem.Spec PyProof.Rows L2
section
variable {X : Cx}
def pairD (q : Int × Int) : PyData := .tuple [.int q.1, .int q.2]
theorem pairD_plain (q : Int × Int) : (pairD q).plain = true := by simp [pairD, PyData.plain, PyData.plainAll]
theorem pairsD_plain : ∀ qs : List (Int × Int), PyData.plainAll (qs.map pairD) = true
  | [] => by simp [PyData.plainAll]
  | q :: qs => by simp [PyData.plainAll, pairD_plain q, pairsD_plain qs]
theorem pairD_eqv (p q : Int × Int) : PyData.eqv (pairD p) (pairD q) = (p == q) := by
  obtain ⟨a, b⟩ := p
  obtain ⟨c, e⟩ := q
  have h : ((a, b) == (c, e)) = ((a == c) && (b == e)) := rfl
  rw [h]
  simp [pairD, PyData.eqv, PyData.eqvAll]
/-- the objects ys are the pairs qs -/
def Prs (K : PySem.W.Frag) (H : Hp) (ys : List V) (qs : List (Int × Int)) : Prop := Paired (fun (y : V) (q : Int × Int) => ∃ t, y = .ref t ∧ SqT K H t [.int q.1, .int q.2]) ys qs
theorem prs_dp {K : PySem.W.Frag} {H : Hp} : ∀ {ys : List V} {qs : List (Int × Int)}, Prs K H ys qs → DpAll K H ys (qs.map pairD)
  | _, _, .nil => .nil
  | _, _, .cons ⟨t, e, h⟩ r => by
    subst e
    exact .cons (.tup h (.cons (.int _) (.cons (.int _) .nil))) (prs_dp r)
theorem pairs_depth : ∀ qs : List (Int × Int), PyData.depthAll (qs.map pairD) ≤ 1
  | [] => by simp [PyData.depthAll]
  | q :: qs => by
    have := pairs_depth qs
    simp only [List.map_cons, PyData.depthAll, pairD, PyData.depth]
    omega
theorem place_of {qs : List (Int × Int)} {q : Int × Int} {j : Nat} (h : qs.findIdx? (· == q) = some j) : SeqAt.dataPlace (qs.map pairD) (pairD q) = some j := by
  unfold SeqAt.dataPlace
  rw [List.findIdx?_map]
  have e : ((fun y => PyData.eqv y (pairD q)) ∘ pairD) = fun p => p == q := funext fun p => pairD_eqv p q
  rw [e]
  exact h
def rRemP (K : PySem.W.Frag) : V → List V → Hp → VK → Prop := fun x xs H Q => ∃ (l t : Addr) (ys : List V) (qs : List (Int × Int)) (q : Int × Int) (j : Nat), x = .ref l ∧ xs = [.ref t] ∧ H l = some (.lst ys) ∧ Prs K H ys qs ∧ SqT K H t [.int q.1, .int q.2] ∧
  qs.findIdx? (· == q) = some j ∧ Q .non (upd H l (.lst (ys.eraseIdx j)))
theorem len_cut {α : Type} (xs : List α) (j : Nat) : (xs.eraseIdx j).length ≤ xs.length := List.length_eraseIdx_le ..
theorem mt_removeP (hu : X.A.units + 64 < cLine) : MtM X "list.remove" (rRemP X.K) := by
  intro pins s σ H x xs v us Q I rx rxs h
  obtain ⟨l, t, ys, qs, q, j, rfl, rfl, hH, hp, ht, hj, k⟩ := h
  cases rx
  obtain ⟨u, rfl, ru⟩ := rxs.one
  obtain rfl : u = Value.ref t := ru
  obtain ⟨z, its, n, r, hl, e⟩ := I.lstM hH
  obtain ⟨as, ra⟩ := Dp.readsAll I _ _ its (prs_dp hp) r
  obtain ⟨bs, rb⟩ := Dp.reads I (pairD q) (.ref t) (.ref t) (.tup ht (.cons (.int _) (.cons (.int _) .nil))) rfl
  have hd : (pairD q).depth = 1 := by simp [pairD, PyData.depth, PyData.depthAll]
  have hm := Nat.min_le_right (PyData.depthAll (qs.map pairD)) (pairD q).depth
  refine SeqAt.remove_list_data (vs := its.toArray) ⟨_, e, rfl, n, rfl⟩ (by simpa using ra) rb (pairsD_plain qs) (pairD_plain q) (by omega) (place_of hj) (by rw [List.size_toArray]; omega) ?_
  refine ⟨.non, _, I.lset (its' := its.eraseIdx j) (t' := s.toks) hH e ?_ (r.eraseIdx j) ?_, rfl, k⟩
  · show its.toArray.eraseIdxIfInBounds j = (its.eraseIdx j).toArray
    rw [List.eraseIdxIfInBounds_toArray]
  · exact Nat.le_trans (len_cut ys j) z
/-- the set of a tuple's whole numbers -/
def rSetOfI (K : PySem.W.Frag) (w : World) : List V → Hp → VK → Prop := fun vs H Q => ∃ (p : Addr) (ns : List Int), vs = [.ref p] ∧ SqT K H p (ns.map V.int) ∧ ns.length ≤ 1000 ∧ ∀ (a : Addr) (n : Nat), H a = none → n ≤ ns.length → Q (.ref a) (upd H a (SetO w a (fun j => decide (j ∈ ns)) n))
theorem cr_setOfI (hc : X.calm = true) : CallR X (.type "set") (rSetOfI X.K X.w) := by
  intro pins s σ H vs us Q I rv h
  obtain ⟨p, ns, rfl, hp, hl, k⟩ := h
  obtain ⟨u, rfl, ru⟩ := rv.one
  obtain rfl : u = Value.ref p := ru
  obtain ⟨its, r, pt, hz⟩ := I.tuple hp
  have hi : IntsAre its.toArray.toList ns := ints_of_vals r
  refine call_set_tupI ns (I.ok.hd hc) (show s.heap.IsTuple p its.toArray from pt) hi (by unfold scanBound; omega) fun h' tk c R1 hcn kp => ?_
  exact ⟨.ref _, _, I.laid (t' := tk) (o := SetO X.w s.heap.objs.size (fun j => decide (j ∈ ns)) c) kp (Nat.le_refl _) (setO_new R1), rfl, k _ c (I.hok.fresh (Nat.le_refl _)) hcn⟩
theorem k_setOfI {K : PySem.W.Frag} {w : World} (hc : X.calm = true) (e : X.K = K := by rfl) (ew : X.w = w := by rfl) : CallR X (.type "set") (rSetOfI K w) := e ▸ ew ▸ cr_setOfI hc
theorem k_removeP {K : PySem.W.Frag} (hu : X.A.units + 64 < cLine) (e : X.K = K := by rfl) : MtM X "list.remove" (rRemP K) := e ▸ mt_removeP hu
end
end SG

/-! The deck of G4, by the names of the later texts. -/
namespace SG
open PySem PySem.Spec PyProof.Rows L2
abbrev Dek (H : Hp) (d l : Addr) (c : Nat) : Prop := Deck H d l c
theorem Dek.mono {H : Hp} {d l : Addr} {c e : Nat} (D : Dek H d l c) (h : c ≤ e) : Dek H d l e := Deck.mono D h
theorem Dek.same {H H1 : Hp} {d l : Addr} {c : Nat} (D : Dek H d l c) (s : Same H H1) : Dek H1 d l c := Deck.same D s
theorem Dek.upd {H : Hp} {d l p : Addr} {c : Nat} {o : HO} (D : Dek H d l c) (hp : H p = none) : Dek (upd H p o) d l c := Deck.upd D hp
theorem Dek.ne {H : Hp} {d l p : Addr} {c : Nat} (D : Dek H d l c) (h : H p = none) : p ≠ d ∧ p ≠ l := Deck.ne D h
theorem Kept.tupG {K : PySem.W.Frag} {d l : Addr} {H H2 : Hp} {c : Nat} {a : Addr} {xs : List V} (k : Kept d l H H2) (D : Dek H d l c) (h : SqT K H a xs) : SqT K H2 a xs := k.tup D h
theorem Kept.lstG {K : PySem.W.Frag} {d l : Addr} {H H2 : Hp} {c : Nat} {a : Addr} {xs : List V} (k : Kept d l H H2) (D : Dek H d l c) (hl : a ≠ l) (h : SqL K H a xs) : SqL K H2 a xs := k.lst D hl h
/-- a list of values that are drawn, turn by turn -/
theorem lc_drawsG {d l D : Addr} {c n s : Nat} {te : TE} {σ : L2.St} {H1 : Hp} {Qd : Hp → Prop} {B : V → Prop} (D0 : Dek H1 d l c) (hD : H1 D = none) (hn : n ≤ 1000)
    (turn : ∀ (i : Nat) (H2 : Hp), i < n → Dek H2 d l (c + i) → Kept d l H1 H2 → ∀ R : VK, (∀ (x : V) (H3 : Hp), B x → Dek H3 d l (c + i + 1) → Kept d l H2 H3 → R x H3) → te ((wipe σ [s]).set s (some (.int (0 + i)))) H2 R)
    (done : ∀ (xs : List V) (H2 : Hp), xs.length = n → (∀ x ∈ xs, B x) → H2 D = some (.lst xs) → Dek H2 d l (c + n) → Kept d l H1 H2 → Qd H2) :
    ∃ W : Nat → Nat → Hp → Prop, (∃ m, W 0 m (upd H1 D (.lst []))) ∧ ∀ i m H, W i m H →
      ((Itr 0 n).stop i H ∧ Qd H) ∨ ((Itr 0 n).go i H ∧ ∃ Nx : Hp → Prop, (∀ H2, Nx H2 → ∃ m2, m2 < m ∧ W (i + 1) m2 H2) ∧ ∀ x H2, (Itr 0 n).yld i H x H2 → gName s x (wipe σ [s]) H2 fun σ2 H3 => wipe σ2 [s] = wipe σ [s] ∧ tYes σ2 H3 fun b H4 =>
        if b = true then te σ2 H4 fun y H5 => ∃ acc, H5 D = some (.lst acc) ∧ acc.length < sizeLine ∧ Nx (upd H5 D (.lst (acc ++ [y]))) else Nx H4) := by
  obtain ⟨nd, nl⟩ := D0.ne hD
  refine lc_range (fun i H2 => ∃ xs : List V, xs.length = i ∧ (∀ x ∈ xs, B x) ∧ H2 D = some (.lst xs) ∧ Dek H2 d l (c + i) ∧ Kept d l H1 H2) ?_ ?_ ?_
  · exact ⟨[], rfl, (fun _ h => absurd h List.not_mem_nil), upd_same, D0.upd hD, .of (same_new hD)⟩
  · rintro i H2 hi ⟨xs, hx, hB, hD2, D2, k2⟩
    refine ⟨wipe1 _ _ _, ?_⟩
    refine yesI ?_
    refine turn i H2 hi D2 k2 _ fun x H3 hb D3 k3 => ⟨xs, k3 _ _ hD2 nd nl, ?_, xs ++ [x], by simp [hx], fun y hy => ?_, upd_same, ?_, ?_⟩
    · rw [hx]
      exact small1000 (by omega)
    · rcases List.mem_append.mp hy with h | h
      · exact hB y h
      · rw [List.mem_singleton.mp h]; exact hb
    · obtain ⟨cs, m, k, h1, h2, h3⟩ := D3
      exact ⟨cs, m, k, by rw [upd_ne nd.symm]; exact h1, by rw [upd_ne nl.symm]; exact h2, h3⟩
    · intro b o e h1 h2
      rw [upd_ne (ne_of_none e hD)]
      exact k3 _ _ (k2 _ _ e h1 h2) h1 h2
  · rintro H2 ⟨xs, hx, hB, hD2, D2, k2⟩
    exact done xs H2 hx hB hD2 D2 k2

/-! ### comprehensions that make new objects alone -/
/-- all but lists stays -/
def Tups (H H' : Hp) : Prop := ∀ b o, H b = some o → (∀ zs, o ≠ .lst zs) → H' b = some o
theorem Tups.of {H H' : Hp} (s : Same H H') : Tups H H' := fun b o e _ => s b o e
theorem lc_same {J : It} {n : Nat} {G : Hp → Prop} {Y : Nat → Hp → V → Hp → Prop} (w : Walk J n G Y) {g : TG} {tt : TT} {te : TE} {vs : List Nat} {σ : L2.St} {H1 : Hp} {D : Addr} {Qd : Hp → Prop} (hn : n ≤ 1000) (hD : H1 D = none)
    (A : Nat → List V → Hp → Prop) (A0 : A 0 [] H1) (Am : ∀ i acc H H', Tups H H' → A i acc H → A i acc H') (hG : ∀ H, Same H1 H → G H)
    (turn : ∀ (i : Nat) (x : V) (acc : List V) (H2 H3 : Hp), i < n → Same H1 H2 → A i acc H2 → Y i H2 x H3 → ∀ (R : VK) (N : Hp → Prop), (∀ y H6, Same H2 H6 → A (i + 1) (acc ++ [y]) H6 → R y H6) → (∀ H6, Same H2 H6 → A (i + 1) acc H6 → N H6) →
      g x (wipe σ vs) H3 fun σ2 H4 => wipe σ2 vs = wipe σ vs ∧ tt σ2 H4 fun b H5 => if b = true then te σ2 H5 R else N H5)
    (done : ∀ (acc : List V) (H2 : Hp), Same H1 H2 → acc.length ≤ n → H2 D = some (.lst acc) → A n acc H2 → Qd H2) :
    ∃ W : Nat → Nat → Hp → Prop, (∃ m, W 0 m (upd H1 D (.lst []))) ∧ ∀ i m H, W i m H →
      (J.stop i H ∧ Qd H) ∨ (J.go i H ∧ ∃ Nx : Hp → Prop, (∀ H', Nx H' → ∃ m', m' < m ∧ W (i + 1) m' H') ∧ ∀ x H', J.yld i H x H' → g x (wipe σ vs) H' fun σ2 H2 => wipe σ2 vs = wipe σ vs ∧ tt σ2 H2 fun b H3 =>
        if b = true then te σ2 H3 fun y H4 => ∃ acc, H4 D = some (.lst acc) ∧ acc.length < sizeLine ∧ Nx (upd H4 D (.lst (acc ++ [y]))) else Nx H3) := by
  refine lc_it w (fun i H => Same H1 H ∧ ∃ acc, H D = some (.lst acc) ∧ acc.length ≤ i ∧ A i acc H) ⟨same_new hD, [], upd_same, Nat.le_refl _, Am _ _ _ _ (.of (same_new hD)) A0⟩ (fun i H _ q => hG H q.1) ?_ ?_
  · rintro i x H H' hi ⟨s, acc, hA, hl, a⟩ hy
    refine turn i x acc H H' hi s a hy _ _ (fun y H6 s6 a6 => ⟨acc, s6 _ _ hA, small1000 (by omega), same_upd_of (s.trans s6) hD, acc ++ [y], upd_same, by rw [List.length_append]; simpa using hl, Am _ _ _ _ ?_ a6⟩) fun H6 s6 a6 => ⟨s.trans s6, acc, s6 _ _ hA, by omega, a6⟩
    intro b o e nl
    have hb : b ≠ D := fun z => nl acc (Option.some.inj (e.symm.trans (by rw [z]; exact s6 _ _ hA)))
    rw [upd_ne hb]
    exact e
  · rintro H ⟨s, acc, hA, hl, a⟩
    exact done acc H s hl hA a
end SG

/-! Small data in which empty dicts stand; it stays while the deck is drawn from. -/
namespace SG
open PySem PySem.Spec PyProof.Rows L2
mutual
/-- whole numbers to m either way, plain texts of at most t signs, no dict but empty ones -/
def fitD (m t : Nat) : PyData → Bool
  | .int i => decide (i.natAbs ≤ m)
  | .str z => z.cps.toList.all (fun c => decide (c < 128)) && decide (z.length ≤ t)
  | .list xs => fitA m t xs
  | .tuple xs => fitA m t xs
  | .dict kvs => kvs.isEmpty
  | .none => true
  | .bool _ => true
def fitA (m t : Nat) : List PyData → Bool
  | [] => true
  | x :: xs => fitD m t x && fitA m t xs
end
mutual
theorem fit_told {m t : Nat} (hm : m < 10 ^ 4300) : ∀ D : PyData, fitD m t D = true → tellE D = true ∧ D.leavesShort 4302 = true
  | .int i, h => by
    have h : i.natAbs ≤ m := of_decide_eq_true (by simpa only [fitD] using h)
    have hi : i.natAbs < 10 ^ 4300 := Nat.lt_of_le_of_lt h hm
    exact ⟨by simp only [tellE]; exact decide_eq_true hi, (OkD.int hi).short⟩
  | .str z, h => by
    have h := h
    simp only [fitD, Bool.and_eq_true, List.all_eq_true, decide_eq_true_eq] at h
    refine ⟨by simp [tellE], ?_⟩
    simp only [PyData.leavesShort, List.all_eq_true, decide_eq_true_eq]
    exact fun c hc => Nat.lt_of_lt_of_le (h.1 c hc) (by decide)
  | .list xs, h => by
    have z := fitA_told (t := t) hm xs (by simpa only [fitD] using h)
    exact ⟨by simpa only [tellE] using z.1, by simpa only [PyData.leavesShort] using z.2⟩
  | .tuple xs, h => by
    have z := fitA_told (t := t) hm xs (by simpa only [fitD] using h)
    exact ⟨by simpa only [tellE] using z.1, by simpa only [PyData.leavesShort] using z.2⟩
  | .dict [], _ => by simp [tellE, PyData.leavesShort, PyData.leavesShortKv]
  | .dict (_ :: _), h => by simp [fitD] at h
  | .none, _ => by simp [tellE, PyData.leavesShort]
  | .bool _, _ => by simp [tellE, PyData.leavesShort]
theorem fitA_told {m t : Nat} (hm : m < 10 ^ 4300) : ∀ ds : List PyData, fitA m t ds = true → tellEAll ds = true ∧ PyData.leavesShortAll 4302 ds = true
  | [], _ => by simp [tellEAll, PyData.leavesShortAll]
  | d :: ds, h => by
    have h2 : fitD m t d = true ∧ fitA m t ds = true := by simpa only [fitA, Bool.and_eq_true] using h
    have z1 := fit_told hm d h2.1
    have z2 := fitA_told hm ds h2.2
    simp only [tellEAll, PyData.leavesShortAll, z1.1, z1.2, z2.1, z2.2, Bool.and_self, and_self]
end
mutual
theorem fit_mono {m t m2 t2 : Nat} (h1 : m ≤ m2) (h2 : t ≤ t2) : ∀ D : PyData, fitD m t D = true → fitD m2 t2 D = true
  | .int i, h => by
    have h : i.natAbs ≤ m := of_decide_eq_true (by simpa only [fitD] using h)
    simp only [fitD]
    exact decide_eq_true (by omega)
  | .str z, h => by
    simp only [fitD, Bool.and_eq_true, decide_eq_true_eq] at h ⊢
    exact ⟨h.1, by omega⟩
  | .list xs, h => by
    simp only [fitD] at h ⊢
    exact fitA_mono h1 h2 xs h
  | .tuple xs, h => by
    simp only [fitD] at h ⊢
    exact fitA_mono h1 h2 xs h
  | .dict _, h => by simpa only [fitD] using h
  | .none, _ => by simp [fitD]
  | .bool _, _ => by simp [fitD]
theorem fitA_mono {m t m2 t2 : Nat} (h1 : m ≤ m2) (h2 : t ≤ t2) : ∀ ds : List PyData, fitA m t ds = true → fitA m2 t2 ds = true
  | [], _ => by simp [fitA]
  | d :: ds, h => by
    have h3 : fitD m t d = true ∧ fitA m t ds = true := by simpa only [fitA, Bool.and_eq_true] using h
    simp only [fitA, fit_mono h1 h2 d h3.1, fitA_mono h1 h2 ds h3.2, Bool.and_self]
end
theorem fitA_mem {m t : Nat} : ∀ {ds : List PyData}, fitA m t ds = true → ∀ d ∈ ds, fitD m t d = true
  | d :: ds, h, e, he => by
    have h3 : fitD m t d = true ∧ fitA m t ds = true := by simpa only [fitA, Bool.and_eq_true] using h
    rcases List.mem_cons.mp he with rfl | he
    · exact h3.1
    · exact fitA_mem h3.2 e he
theorem fitA_of {m t : Nat} : ∀ {ds : List PyData}, (∀ d ∈ ds, fitD m t d = true) → fitA m t ds = true
  | [], _ => by simp [fitA]
  | d :: ds, h => by simp only [fitA, h d List.mem_cons_self, fitA_of fun e he => h e (List.mem_cons_of_mem _ he), Bool.and_self]
theorem bulkA_app : ∀ (a b : List PyData), PyData.bulkAll (a ++ b) = PyData.bulkAll a + PyData.bulkAll b
  | [], b => by simp [PyData.bulkAll]
  | d :: a, b => by
    have := bulkA_app a b
    simp only [List.cons_append, PyData.bulkAll, this]
    omega
theorem bulkA_rev : ∀ a : List PyData, PyData.bulkAll a.reverse = PyData.bulkAll a
  | [] => rfl
  | d :: a => by
    have := bulkA_rev a
    rw [List.reverse_cons, bulkA_app, this]
    simp only [PyData.bulkAll]
    omega
theorem bulkA_take (a : List PyData) (n : Nat) : PyData.bulkAll (a.take n) ≤ PyData.bulkAll a := by
  have := bulkA_app (a.take n) (a.drop n)
  rw [List.take_append_drop] at this
  omega
theorem bulkA_drop (a : List PyData) (n : Nat) : PyData.bulkAll (a.drop n) ≤ PyData.bulkAll a := by
  have := bulkA_app (a.take n) (a.drop n)
  rw [List.take_append_drop] at this
  omega
theorem bulkA_mem : ∀ {a : List PyData} {d : PyData}, d ∈ a → d.bulk + 1 ≤ PyData.bulkAll a
  | e :: a, d, h => by
    simp only [PyData.bulkAll]
    rcases List.mem_cons.mp h with rfl | h
    · omega
    · have := bulkA_mem h
      omega
theorem bulkA_len : ∀ a : List PyData, a.length ≤ PyData.bulkAll a
  | [] => Nat.zero_le _
  | d :: a => by
    have := bulkA_len a
    simp only [PyData.bulkAll, List.length_cons]
    omega
theorem depthA_of {n : Nat} : ∀ {ds : List PyData}, (∀ d ∈ ds, d.depth ≤ n) → PyData.depthAll ds ≤ n
  | [], _ => by simp [PyData.depthAll]
  | d :: ds, h => by
    simp only [PyData.depthAll]
    exact Nat.max_le.mpr ⟨h d List.mem_cons_self, depthA_of fun e he => h e (List.mem_cons_of_mem _ he)⟩
/-- small: how deep, how much in all, how great its numbers, how long its texts -/
structure Sx (n b m t : Nat) (D : PyData) : Prop where
  dep : D.depth ≤ n
  bulk : D.bulk ≤ b
  fit : fitD m t D = true
structure SxA (n b m t : Nat) (ds : List PyData) : Prop where
  dep : ∀ d ∈ ds, d.depth ≤ n
  bulk : PyData.bulkAll ds ≤ b
  fit : ∀ d ∈ ds, fitD m t d = true
section
variable {n b m t n2 b2 m2 t2 : Nat} {D : PyData} {ds es : List PyData}
theorem Sx.mono (h : Sx n b m t D) (h1 : n ≤ n2) (h2 : b ≤ b2) (h3 : m ≤ m2) (h4 : t ≤ t2) : Sx n2 b2 m2 t2 D := ⟨Nat.le_trans h.dep h1, Nat.le_trans h.bulk h2, fit_mono h3 h4 _ h.fit⟩
theorem SxA.mono (h : SxA n b m t ds) (h1 : n ≤ n2) (h2 : b ≤ b2) (h3 : m ≤ m2) (h4 : t ≤ t2) : SxA n2 b2 m2 t2 ds := ⟨fun d hd => Nat.le_trans (h.dep d hd) h1, Nat.le_trans h.bulk h2, fun d hd => fit_mono h3 h4 _ (h.fit d hd)⟩
theorem SxA.tuple (h : SxA n b m t ds) : Sx (n + 1) b m t (.tuple ds) := ⟨by simp only [PyData.depth]; have := depthA_of h.dep; omega, by simpa only [PyData.bulk] using h.bulk, by simp only [fitD]; exact fitA_of h.fit⟩
theorem SxA.list (h : SxA n b m t ds) : Sx (n + 1) b m t (.list ds) := ⟨by simp only [PyData.depth]; have := depthA_of h.dep; omega, by simpa only [PyData.bulk] using h.bulk, by simp only [fitD]; exact fitA_of h.fit⟩
theorem Sx.items (h : Sx n b m t (.tuple ds)) : 1 ≤ n ∧ SxA (n - 1) b m t ds := by
  have h1 := h.dep
  simp only [PyData.depth] at h1
  refine ⟨by omega, fun d hd => ?_, by simpa only [PyData.bulk] using h.bulk, fitA_mem (by simpa only [fitD] using h.fit)⟩
  have := depth_mem hd
  omega
theorem SxA.nil : SxA n b m t [] := ⟨fun _ h => (nomatch h), by simp [PyData.bulkAll], fun _ h => (nomatch h)⟩
theorem SxA.app (h : SxA n b m t ds) (k : SxA n b2 m t es) : SxA n (b + b2) m t (ds ++ es) :=
  ⟨fun d hd => (List.mem_append.mp hd).elim (h.dep d) (k.dep d), by rw [bulkA_app]; have := h.bulk; have := k.bulk; omega, fun d hd => (List.mem_append.mp hd).elim (h.fit d) (k.fit d)⟩
theorem SxA.one (h : Sx n b m t D) : SxA n (b + 1) m t [D] := ⟨fun d hd => by rw [List.mem_singleton.mp hd]; exact h.dep, by simp only [PyData.bulkAll]; have := h.bulk; omega, fun d hd => by rw [List.mem_singleton.mp hd]; exact h.fit⟩
theorem SxA.take (h : SxA n b m t ds) (k : Nat) : SxA n b m t (ds.take k) := ⟨fun d hd => h.dep d (List.mem_of_mem_take hd), Nat.le_trans (bulkA_take _ _) h.bulk, fun d hd => h.fit d (List.mem_of_mem_take hd)⟩
theorem SxA.drop (h : SxA n b m t ds) (k : Nat) : SxA n b m t (ds.drop k) := ⟨fun d hd => h.dep d (List.mem_of_mem_drop hd), Nat.le_trans (bulkA_drop _ _) h.bulk, fun d hd => h.fit d (List.mem_of_mem_drop hd)⟩
theorem SxA.rev (h : SxA n b m t ds) : SxA n b m t ds.reverse := ⟨fun d hd => h.dep d (List.mem_reverse.mp hd), by rw [bulkA_rev]; exact h.bulk, fun d hd => h.fit d (List.mem_reverse.mp hd)⟩
theorem Sx.short (h : Sx n b m t D) (hb : b ≤ 3000) (hm : m < 10 ^ 4300) : D.shown.length ≤ sizeLine := by
  have z := PyData.shown_le_bulk 4302 (by decide) D (fit_told hm D h.fit).2
  have z2 : (4302 + 2) * D.bulk ≤ 4304 * 3000 := Nat.mul_le_mul (Nat.le_refl _) (Nat.le_trans h.bulk hb)
  rw [sizeLine_eq]
  omega
end
/-! ### what stays while the deck is drawn from -/
mutual
/-- v is the data D, held by no object of the deck -/
inductive Dy (K : PySem.W.Frag) (d l : Addr) (H : Hp) : V → PyData → Prop
  | non : Dy K d l H .non .none
  | bl (b : Bool) : Dy K d l H (.bl b) (.bool b)
  | int (i : Int) : Dy K d l H (.int i) (.int i)
  | str (z : Str) : Dy K d l H (.str z) (.str z)
  | lst {p : Addr} {xs : List V} {es : List PyData} (hq : H p = some (.lst xs)) (n1 : p ≠ d) (n2 : p ≠ l) (ha : DyAll K d l H xs es) : Dy K d l H (.ref p) (.list es)
  | tup {p : Addr} {xs : List V} {es : List PyData} (hq : SqT K H p xs) (ha : DyAll K d l H xs es) : Dy K d l H (.ref p) (.tuple es)
  | dct {p : Addr} (hp : H p = some (.dK [])) (n1 : p ≠ d) (n2 : p ≠ l) : Dy K d l H (.ref p) (.dict [])
inductive DyAll (K : PySem.W.Frag) (d l : Addr) (H : Hp) : List V → List PyData → Prop
  | nil : DyAll K d l H [] []
  | cons {x : V} {xs : List V} {e : PyData} {es : List PyData} (hx : Dy K d l H x e) (ht : DyAll K d l H xs es) : DyAll K d l H (x :: xs) (e :: es)
end
section
variable {K : PySem.W.Frag} {d l : Addr} {c : Nat} {H H2 : Hp}
mutual
theorem dy_dx : ∀ {x : V} {D : PyData}, Dy K d l H x D → Dx K H x D
  | _, _, .non => .non
  | _, _, .bl b => .bl b
  | _, _, .int i => .int i
  | _, _, .str t => .str t
  | _, _, .lst q _ _ a => .lst (SqL.of q) (dyA_dx a)
  | _, _, .tup q a => .tup q (dyA_dx a)
  | _, _, .dct h _ _ => .dct h
theorem dyA_dx : ∀ {xs : List V} {ds : List PyData}, DyAll K d l H xs ds → DxAll K H xs ds
  | _, _, .nil => .nil
  | _, _, .cons a b => .cons (dy_dx a) (dyA_dx b)
end
mutual
theorem dy_kept (Dk : Dek H d l c) (k : Kept d l H H2) : ∀ {x : V} {D : PyData}, Dy K d l H x D → Dy K d l H2 x D
  | _, _, .non => .non
  | _, _, .bl b => .bl b
  | _, _, .int i => .int i
  | _, _, .str t => .str t
  | _, _, .lst q n1 n2 a => .lst (k _ _ q n1 n2) n1 n2 (dyA_kept Dk k a)
  | _, _, .tup q a => .tup (k.tupG Dk q) (dyA_kept Dk k a)
  | _, _, .dct h n1 n2 => .dct (k _ _ h n1 n2) n1 n2
theorem dyA_kept (Dk : Dek H d l c) (k : Kept d l H H2) : ∀ {xs : List V} {ds : List PyData}, DyAll K d l H xs ds → DyAll K d l H2 xs ds
  | _, _, .nil => .nil
  | _, _, .cons a b => .cons (dy_kept Dk k a) (dyA_kept Dk k b)
end
mutual
theorem dy_same (s : Same H H2) : ∀ {x : V} {D : PyData}, Dy K d l H x D → Dy K d l H2 x D
  | _, _, .non => .non
  | _, _, .bl b => .bl b
  | _, _, .int i => .int i
  | _, _, .str t => .str t
  | _, _, .lst q n1 n2 a => .lst (s _ _ q) n1 n2 (dyA_same s a)
  | _, _, .tup q a => .tup (sameT s q) (dyA_same s a)
  | _, _, .dct h n1 n2 => .dct (s _ _ h) n1 n2
theorem dyA_same (s : Same H H2) : ∀ {xs : List V} {ds : List PyData}, DyAll K d l H xs ds → DyAll K d l H2 xs ds
  | _, _, .nil => .nil
  | _, _, .cons a b => .cons (dy_same s a) (dyA_same s b)
end
theorem dyA_len : ∀ {xs : List V} {ds : List PyData}, DyAll K d l H xs ds → xs.length = ds.length
  | _, _, .nil => rfl
  | _, _, .cons _ b => congrArg (· + 1) (dyA_len b)
theorem dyA_get : ∀ {xs : List V} {ds : List PyData} {i : Nat} {x : V}, DyAll K d l H xs ds → xs[i]? = some x → ∃ D, ds[i]? = some D ∧ Dy K d l H x D
  | _, _, _, _, .nil, e => by simp at e
  | _, _, 0, _, .cons a b, e => by
    simp at e
    subst e
    exact ⟨_, rfl, a⟩
  | _, _, i + 1, x, .cons a b, e => by
    obtain ⟨D, h1, h2⟩ := dyA_get (i := i) (x := x) b (by simpa using e)
    exact ⟨D, by simpa using h1, h2⟩
theorem dyA_app : ∀ {xs ys : List V} {ds es : List PyData}, DyAll K d l H xs ds → DyAll K d l H ys es → DyAll K d l H (xs ++ ys) (ds ++ es)
  | _, _, _, _, .nil, h => h
  | _, _, _, _, .cons a b, h => .cons a (dyA_app b h)
theorem dyA_take : ∀ {xs : List V} {ds : List PyData} (n : Nat), DyAll K d l H xs ds → DyAll K d l H (xs.take n) (ds.take n)
  | _, _, 0, _ => .nil
  | _, _, _ + 1, .nil => .nil
  | _, _, n + 1, .cons a b => .cons a (dyA_take n b)
theorem dyA_drop : ∀ {xs : List V} {ds : List PyData} (n : Nat), DyAll K d l H xs ds → DyAll K d l H (xs.drop n) (ds.drop n)
  | _, _, 0, h => h
  | _, _, _ + 1, .nil => .nil
  | _, _, n + 1, .cons a b => dyA_drop n b
theorem dyA_rev : ∀ {xs : List V} {ds : List PyData}, DyAll K d l H xs ds → DyAll K d l H xs.reverse ds.reverse
  | _, _, .nil => .nil
  | _, _, .cons a b => by
    rw [List.reverse_cons, List.reverse_cons]
    exact dyA_app (dyA_rev b) (.cons a .nil)
theorem dyA_ints : ∀ ns : List Int, DyAll K d l H (ns.map V.int) (dI ns)
  | [] => .nil
  | n :: ns => .cons (.int n) (dyA_ints ns)
theorem dy_tuple {x : V} {ds : List PyData} (h : Dy K d l H x (.tuple ds)) : ∃ a xs, x = .ref a ∧ SqT K H a xs ∧ DyAll K d l H xs ds := by
  cases h with
  | tup q a => exact ⟨_, _, rfl, q, a⟩
/-- a part cut out -/
theorem dyA_cut {xs : List V} {ds : List PyData} (h : DyAll K d l H xs ds) {n b m t : Nat} (s : SxA n b m t ds) (lo hi : Option Int) : ∃ es, DyAll K d l H (cutV xs lo hi) es ∧ SxA n b m t es :=
  ⟨_, dyA_take _ (dyA_drop _ h), (s.drop _).take _⟩
end
end SG

/-! Readings of literals and parts that give small data, while a deck stands. -/
namespace SG
open PySem PySem.Spec PyProof.Rows L2
/-! ### plain texts -/
def Asc (z : Str) : Prop := ∀ c ∈ z.cps.toList, c < 128
theorem Sx.str {n b m t : Nat} {z : Str} (h : Asc z) (h1 : z.length ≤ t) (h2 : z.length ≤ b) : Sx n b m t (.str z) :=
  ⟨by simp [PyData.depth], by simp only [PyData.bulk]; exact h2, by simp only [fitD, Bool.and_eq_true, List.all_eq_true, decide_eq_true_eq]; exact ⟨h, h1⟩⟩
theorem Sx.int {n b m t : Nat} {i : Int} (h : i.natAbs ≤ m) : Sx n b m t (.int i) := ⟨by simp [PyData.depth], by simp [PyData.bulk], by simp only [fitD]; exact decide_eq_true h⟩
theorem Sx.bool {n b m t : Nat} (k : Bool) : Sx n b m t (.bool k) := ⟨by simp [PyData.depth], by simp [PyData.bulk], by simp [fitD]⟩
theorem Sx.none {n b m t : Nat} : Sx n b m t .none := ⟨by simp [PyData.depth], by simp [PyData.bulk], by simp [fitD]⟩
theorem Sx.dict0 {n b m t : Nat} (hn : 1 ≤ n) : Sx n b m t (.dict []) := ⟨by simp only [PyData.depth, PyData.depthKv]; omega, by simp [PyData.bulk, PyData.bulkKv], by simp [fitD]⟩
theorem Sx.asc {n b m t : Nat} {z : Str} (h : Sx n b m t (.str z)) : Asc z ∧ z.length ≤ t ∧ z.length ≤ b := by
  have f := h.fit
  have k := h.bulk
  simp only [fitD, Bool.and_eq_true, List.all_eq_true, decide_eq_true_eq] at f
  simp only [PyData.bulk] at k
  exact ⟨f.1, f.2, k⟩
theorem asc_cat {a b : Str} (ha : Asc a) (hb : Asc b) : Asc (a ++ b) := fun c hc => by
  have e : (a ++ b).cps.toList = a.cps.toList ++ b.cps.toList := TL.tl_append a b
  rw [e] at hc
  exact (List.mem_append.mp hc).elim (ha c) (hb c)
theorem len_cat (a b : Str) : (a ++ b).length = a.length + b.length := by
  have e : (a ++ b).cps.toList = a.cps.toList ++ b.cps.toList := TL.tl_append a b
  have := congrArg List.length e
  rw [List.length_append] at this
  simpa [Str.length] using this
theorem asc_upper1 : ∀ c, c < 128 → (Unicode.upperOf c).all (fun e => decide (e < 128)) = true ∧ (Unicode.upperOf c).length = 1 := by decide +kernel
theorem upper_list (z : Str) : (Txt.upper z).cps.toList = z.cps.toList.flatMap Unicode.upperOf := by
  unfold Txt.upper placed
  show ((z.cps.mapIdx fun _ c => (Unicode.upperOf c).toArray).flatten).toList = _
  rw [Array.toList_flatten, Array.toList_mapIdx]
  have e : (z.cps.toList.mapIdx fun _ c => (Unicode.upperOf c).toArray) = z.cps.toList.map fun c => (Unicode.upperOf c).toArray := by
    refine List.ext_getElem (by simp) fun i h1 h2 => by simp
  rw [e, List.map_map]
  rfl
theorem asc_upper {z : Str} (h : Asc z) : Asc (Txt.upper z) ∧ (Txt.upper z).length = z.length := by
  have e := upper_list z
  constructor
  · intro c hc
    rw [e] at hc
    obtain ⟨x, hx, hc⟩ := List.mem_flatMap.mp hc
    have := List.all_eq_true.mp (asc_upper1 x (h x hx)).1 c hc
    exact of_decide_eq_true this
  · have l := congrArg List.length e
    have k : ∀ xs : List Nat, (∀ c ∈ xs, c < 128) → (xs.flatMap Unicode.upperOf).length = xs.length := by
      intro xs
      induction xs with
      | nil => intro _; rfl
      | cons a r ih =>
        intro hh
        rw [List.flatMap_cons, List.length_append, ih fun c hc => hh c (List.mem_cons_of_mem _ hc), (asc_upper1 a (hh a List.mem_cons_self)).2, List.length_cons]
        omega
    rw [k _ h] at l
    simpa [Str.length] using l
theorem cut_mem {z : Str} (lo hi : Option Int) (h : Asc z) : Asc (cutS z lo hi) ∧ (cutS z lo hi).length ≤ z.length := by
  refine ⟨fun c hc => ?_, cutS_length z lo hi⟩
  refine h c ?_
  have hc2 : c ∈ ((z.cps.toList.drop (HT.sIx z.length 0 lo)).take (HT.sIx z.length z.length hi - HT.sIx z.length 0 lo)).toArray.toList := hc
  exact List.mem_of_mem_drop (List.mem_of_mem_take hc2)
theorem num_asc (D : PyData) : Asc (numT D) := by
  have hi : ∀ i : Int, Asc (Str.ofString (toString i)) := by
    intro i c hc
    rw [signs_ofString] at hc
    obtain ⟨ch, h1, rfl⟩ := List.mem_map.mp hc
    rcases int_sign i ch h1 with h | rfl
    · have := digit_range h
      omega
    · decide
  have hx : ∀ c ∈ ("" : Str).cps.toList, c < 128 := by decide +kernel
  cases D with
  | int i => exact hi i
  | bool k => cases k <;> (show ∀ c ∈ _, _) <;> decide +kernel
  | none => exact hx
  | str _ => exact hx
  | list _ => exact hx
  | tuple _ => exact hx
  | dict _ => exact hx
/-! ### readings -/
/-- x is small data, no object of the deck -/
def Itm (K : PySem.W.Frag) (d l : Addr) (n b m t : Nat) (H : Hp) (x : V) : Prop := ∃ D, Dy K d l H x D ∧ Sx n b m t D
theorem Itm.same {K : PySem.W.Frag} {d l : Addr} {n b m t : Nat} {H H2 : Hp} {x : V} (s : Same H H2) (h : Itm K d l n b m t H x) : Itm K d l n b m t H2 x := by
  obtain ⟨D, h1, h2⟩ := h
  exact ⟨D, dy_same s h1, h2⟩
theorem Itm.kept {K : PySem.W.Frag} {d l : Addr} {c n b m t : Nat} {H H2 : Hp} {x : V} (Dk : Dek H d l c) (k : Kept d l H H2) (h : Itm K d l n b m t H x) : Itm K d l n b m t H2 x := by
  obtain ⟨D, h1, h2⟩ := h
  exact ⟨D, dy_kept Dk k h1, h2⟩
theorem Itm.mono {K : PySem.W.Frag} {d l : Addr} {n b m t n2 b2 m2 t2 : Nat} {H : Hp} {x : V} (h : Itm K d l n b m t H x) (h1 : n ≤ n2) (h2 : b ≤ b2) (h3 : m ≤ m2) (h4 : t ≤ t2) : Itm K d l n2 b2 m2 t2 H x := by
  obtain ⟨D, e1, e2⟩ := h
  exact ⟨D, e1, e2.mono h1 h2 h3 h4⟩
section
variable {K : PySem.W.Frag} {d l : Addr} {c n b m t : Nat} {σ : L2.St} {H0 : Hp}
/-- te gives the data D -/
def WdE (K : PySem.W.Frag) (d l : Addr) (c : Nat) (σ : L2.St) (H0 : Hp) (te : TE) (D : PyData) : Prop := ∀ (H : Hp) (Q : VK), Same H0 H → Dek H d l c → (∀ x H2, Same H H2 → Dek H2 d l c → Dy K d l H2 x D → Q x H2) → te σ H Q
def WdA (K : PySem.W.Frag) (d l : Addr) (c : Nat) (σ : L2.St) (H0 : Hp) (ta : TA) (ds : List PyData) : Prop := ∀ (H : Hp) (Q : List V → Hp → Prop), Same H0 H → Dek H d l c → (∀ xs H2, Same H H2 → Dek H2 d l c → DyAll K d l H2 xs ds → Q xs H2) → ta σ H Q
/-- te gives small data -/
def WxE (K : PySem.W.Frag) (d l : Addr) (c n b m t : Nat) (σ : L2.St) (H0 : Hp) (te : TE) : Prop := ∀ (H : Hp) (Q : VK), Same H0 H → Dek H d l c → (∀ x H2, Same H H2 → Dek H2 d l c → Itm K d l n b m t H2 x → Q x H2) → te σ H Q
def WxA (K : PySem.W.Frag) (d l : Addr) (c n b m t : Nat) (σ : L2.St) (H0 : Hp) (ta : TA) (N : Nat) : Prop := ∀ (H : Hp) (Q : List V → Hp → Prop), Same H0 H → Dek H d l c → (∀ xs H2, Same H H2 → Dek H2 d l c → (∀ x ∈ xs, Itm K d l n b m t H2 x) → xs.length = N → Q xs H2) → ta σ H Q
theorem WdE.to {te : TE} {D : PyData} (a : WdE K d l c σ H0 te D) (s : Sx n b m t D) : WxE K d l c n b m t σ H0 te := fun H Q s0 dk q => a H Q s0 dk fun x H2 s2 dk2 h => q x H2 s2 dk2 ⟨D, h, s⟩
theorem WdE.v {i : Nat} {x : V} {D : PyData} (e : σ[i]? = some (some x)) (h : Dy K d l H0 x D) : WdE K d l c σ H0 (tVar i) D := fun H Q s dk q => ⟨x, e, q x H (Same.refl _) dk (dy_same s h)⟩
theorem WdE.con {v : V} {D : PyData} (h : ∀ H, Dy K d l H v D) : WdE K d l c σ H0 (tC v) D := fun H Q _ dk q => q v H (Same.refl _) dk (h H)
theorem WdE.non : WdE K d l c σ H0 (tC .non) .none := .con fun _ => .non
theorem WdE.bl {k : Bool} : WdE K d l c σ H0 (tC (.bl k)) (.bool k) := .con fun _ => .bl k
theorem WdE.int {i : Int} : WdE K d l c σ H0 (tC (.int i)) (.int i) := .con fun _ => .int i
theorem WdE.str {z : Str} : WdE K d l c σ H0 (tC (.str z)) (.str z) := .con fun _ => .str z
theorem WdE.neg {i : Int} : WdE K d l c σ H0 (tUn (rU fun j => V.int (-j)) (tC (.int i))) (.int (-i)) := fun H Q _ dk q => ⟨i, rfl, q _ H (Same.refl _) dk (.int _)⟩
theorem WdE.dct : WdE K d l c σ H0 tDNewK (.dict []) := fun H Q _ dk q p np => q (.ref p) _ (same_new np) (dk.upd np) (.dct upd_same (dk.ne np).1 (dk.ne np).2)
theorem WdA.nil : WdA K d l c σ H0 tNil [] := fun H Q _ dk q => q [] H (Same.refl _) dk .nil
theorem WdA.cons {te : TE} {ta : TA} {D : PyData} {ds : List PyData} (a : WdE K d l c σ H0 te D) (k : WdA K d l c σ H0 ta ds) : WdA K d l c σ H0 (tCons te ta) (D :: ds) := fun H Q s dk q =>
  a H _ s dk fun x H1 s1 dk1 h1 => k H1 _ (s.trans s1) dk1 fun xs H2 s2 dk2 h2 => q (x :: xs) H2 (s1.trans s2) dk2 (.cons (dy_same s2 h1) h2)
theorem WdE.tup {ta : TA} {ds : List PyData} (a : WdA K d l c σ H0 ta ds) (hl : ds.length ≤ 1000) : WdE K d l c σ H0 (tTup ta) (.tuple ds) := fun H Q s dk q =>
  a H _ s dk fun xs H1 s1 dk1 h1 => ⟨Nat.le_of_lt (small1000 (by rw [dyA_len h1]; exact hl)), fun p np => q (.ref p) _ (s1.trans (same_new np)) (dk1.upd np) (.tup (.inl (.inl upd_same)) (dyA_same (same_new np) h1))⟩
theorem WdE.lst {ta : TA} {ds : List PyData} (a : WdA K d l c σ H0 ta ds) (hl : ds.length ≤ 1000) : WdE K d l c σ H0 (tLst ta) (.list ds) := fun H Q s dk q =>
  a H _ s dk fun xs H1 s1 dk1 h1 => ⟨Nat.le_of_lt (small1000 (by rw [dyA_len h1]; exact hl)), fun p np => q (.ref p) _ (s1.trans (same_new np)) (dk1.upd np) (.lst upd_same (dk1.ne np).1 (dk1.ne np).2 (dyA_same (same_new np) h1))⟩
theorem WdE.listOf {te : TE} {ds : List PyData} (a : WdE K d l c σ H0 te (.tuple ds)) : WdE K d l c σ H0 (tCB (rListOf K) (tCons te tNil)) (.list ds) := fun H Q s dk q =>
  a H _ s dk fun x H1 s1 dk1 h1 => by
    obtain ⟨p, xs, rfl, hp, ha⟩ := dy_tuple h1
    exact ⟨p, xs, rfl, .inr hp, fun r nr => q (.ref r) _ (s1.trans (same_new nr)) (dk1.upd nr) (.lst upd_same (dk1.ne nr).1 (dk1.ne nr).2 (dyA_same (same_new nr) ha))⟩
theorem WdE.cat {t1 t2 : TE} {ds es : List PyData} (a : WdE K d l c σ H0 t1 (.tuple ds)) (k : WdE K d l c σ H0 t2 (.tuple es)) (hl : ds.length + es.length ≤ 1000) : WdE K d l c σ H0 (tOp (rCatU K) t1 t2) (.tuple (ds ++ es)) := fun H Q s dk q =>
  a H _ s dk fun x H1 s1 dk1 h1 => k H1 _ (s.trans s1) dk1 fun y H2 s2 dk2 h2 => by
    obtain ⟨p, xs, rfl, hp, ha⟩ := dy_tuple (dy_same s2 h1)
    obtain ⟨r, ys, rfl, hr, hb⟩ := dy_tuple h2
    have e1 := dyA_len ha
    have e2 := dyA_len hb
    exact ⟨p, r, xs, ys, rfl, rfl, hp, hr, Nat.le_of_lt (small1000 (by omega)), fun z H3 s3 h3 => q (.ref z) H3 ((s1.trans s2).trans s3) (dk2.same s3) (.tup h3 (dyA_same s3 (dyA_app ha hb)))⟩
/-- what a part of a list is -/
def cutD (ds : List PyData) (lo hi : Option Int) : List PyData := (ds.drop (HT.sIx ds.length 0 lo)).take (HT.sIx ds.length ds.length hi - HT.sIx ds.length 0 lo)
def Pt (σ : L2.St) (tp : TO) (o : Option Int) : Prop := ∀ (H : Hp) (Q : Option Int → Hp → Prop), Q o H → tp σ H Q
theorem Pt.no : Pt σ tNoPart none := fun _ _ q => q
theorem Pt.int {i : Int} : Pt σ (tPart (tC (.int i))) (some i) := fun _ _ q => ⟨i, rfl, q⟩
theorem Pt.neg {i : Int} : Pt σ (tPart (tUn (rU fun j => V.int (-j)) (tC (.int i)))) (some (-i)) := fun _ _ q => ⟨i, rfl, -i, rfl, q⟩
theorem Pt.var {i : Nat} {j : Int} (e : σ[i]? = some (some (.int j))) : Pt σ (tPart (tVar i)) (some j) := fun _ _ q => ⟨_, e, j, rfl, q⟩
theorem Pt.var1 {i : Nat} {j : Int} (e : σ[i]? = some (some (.int j))) : Pt σ (tPart (tOp (rI0 fun i j => V.int (i + j)) (tVar i) (tC (.int 1)))) (some (j + 1)) := fun _ _ q => ⟨_, e, _, _, rfl, rfl, j + 1, rfl, q⟩
theorem WdE.slc {te : TE} {lo hi : TO} {o1 o2 : Option Int} {ds : List PyData} (a : WdE K d l c σ H0 te (.tuple ds)) (h1 : Pt σ lo o1) (h2 : Pt σ hi o2) : WdE K d l c σ H0 (tSl (rSlU K) te lo hi) (.tuple (cutD ds o1 o2)) := fun H Q s dk q =>
  a H _ s dk fun x H1 s1 dk1 hx => h1 _ _ (h2 _ _ (by
    obtain ⟨p, xs, rfl, hp, ha⟩ := dy_tuple hx
    refine ⟨p, xs, rfl, hp, fun z H3 s3 h3 => q (.ref z) H3 (s1.trans s3) (dk1.same s3) (.tup h3 (dyA_same s3 ?_))⟩
    have e := dyA_len ha
    unfold cutV cutD
    rw [← e]
    exact dyA_take _ (dyA_drop _ ha)))
theorem WdE.rev {te : TE} {ds : List PyData} (a : WdE K d l c σ H0 te (.tuple ds)) : WdE K d l c σ H0 (tRevX K te) (.tuple ds.reverse) := fun H Q s dk q =>
  a H _ s dk fun x H1 s1 dk1 hx => by
    obtain ⟨p, xs, rfl, hp, ha⟩ := dy_tuple hx
    exact .inl ⟨p, xs, rfl, hp, fun r nr => q (.ref r) _ (s1.trans (same_new nr)) (dk1.upd nr) (.tup (.inl (.inl upd_same)) (dyA_same (same_new nr) (dyA_rev ha)))⟩
theorem WxA.nil : WxA K d l c n b m t σ H0 tNil 0 := fun H Q _ dk q => q [] H (Same.refl _) dk (fun _ h => (nomatch h)) rfl
theorem WxA.cons {te : TE} {ta : TA} {N : Nat} (a : WxE K d l c n b m t σ H0 te) (k : WxA K d l c n b m t σ H0 ta N) : WxA K d l c n b m t σ H0 (tCons te ta) (N + 1) := fun H Q s dk q =>
  a H _ s dk fun x H1 s1 dk1 h1 => k H1 _ (s.trans s1) dk1 fun xs H2 s2 dk2 h2 hl => q (x :: xs) H2 (s1.trans s2) dk2 (fun y hy => by
    rcases List.mem_cons.mp hy with rfl | hy
    · exact h1.same s2
    · exact h2 y hy) (by rw [List.length_cons, hl])
theorem SxA.cutD {ds : List PyData} (h : SxA n b m t ds) (lo hi : Option Int) : SxA n b m t (SG.cutD ds lo hi) := (h.drop _).take _
end
end SG

/-! More rules with the written part as a letter; three keywords, turned round. -/
namespace SG
open PySem PySem.Spec PyProof.Rows L2
section
variable {X : Cx} {K : PySem.W.Frag} {w : World}
def rInS (K : PySem.W.Frag) : R2 := fun x y H Q => ∃ p xs, y = .ref p ∧ (SqL K H p xs ∨ SqT K H p xs) ∧ flatV x = true ∧ xs.all flatV = true ∧ Q (.bl (inV x xs)) H
def rNotS (K : PySem.W.Frag) : R2 := fun x y H Q => ∃ p xs, y = .ref p ∧ (SqL K H p xs ∨ SqT K H p xs) ∧ flatV x = true ∧ xs.all flatV = true ∧ Q (.bl (!inV x xs)) H
theorem k_in (e : X.K = K := by rfl) : OpR X (compareOp .In) (rInS K) := by
  subst e
  exact op_in_seq
theorem k_notin (e : X.K = K := by rfl) : OpR X (compareOp .NotIn) (rNotS K) := by
  subst e
  exact op_notIn_seq
def rMaxK (K : PySem.W.Frag) : List V → Hp → VK → Prop := fun vs H Q => ∃ (a : Addr) (ns : List Int), vs = [V.ref a] ∧ SqL K H a (ns.map V.int) ∧ 0 < ns.length ∧ ∀ m, m ∈ ns → (∀ y, y ∈ ns → y ≤ m) → Q (.int m) H
def rMinK1 (K : PySem.W.Frag) : List V → Hp → VK → Prop := fun vs H Q => ∃ (a : Addr) (ns : List Int), vs = [V.ref a] ∧ SqL K H a (ns.map V.int) ∧ 0 < ns.length ∧ ∀ m, m ∈ ns → (∀ y, y ∈ ns → m ≤ y) → Q (.int m) H
theorem k_max (hc : X.calm = true) (e : X.K = K := by rfl) : CallR X (.builtin "max") (rMaxK K) := by
  subst e
  exact cr_max hc
theorem k_min (hc : X.calm = true) (e : X.K = K := by rfl) : CallR X (.builtin "min") (rMinK1 K) := by
  subst e
  exact cr_min hc
theorem k_sortI (e : X.K = K := by rfl) : CallR X (.builtin "sorted") (rSortedI K) := e ▸ cr_sortedI
theorem k_sortPO (e : X.K = K := by rfl) : CallR X (.builtin "sorted") (rSortedPO K) := e ▸ cr_sortedPO
theorem k_sortSet (hc : X.calm = true) (e : X.w = w := by rfl) : CallR X (.builtin "sorted") (rSortedSet w) := e ▸ cr_sortedSet hc
def rDictP (K : PySem.W.Frag) : List V → Hp → VK → Prop := fun xs H Q => ∃ (a : Addr) (ps : List Addr) (kvs : List (Key × V)), xs = [.ref a] ∧ SqL K H a (ps.map V.ref) ∧ Paired (fun p kv => SqT K H p [kV kv.1, kv.2]) ps kvs ∧ ∀ p, H p = none → Q (.ref p) (upd H p (.dK (mergeK [] kvs)))
theorem k_dictP (hc : X.calm = true) (e : X.K = K := by rfl) : CallR X (.type "dict") (rDictP K) := by
  subst e
  exact call_dictP hc
end
section
variable {X : Cx} {K : PySem.W.Frag}
theorem k_zipA {e e2 : Expr} {ta : TA} {p pos tpos : Pos} {elts : List Expr} {kk : Nat} (hg : Gl X "zip") (hm : X.mg "zip" = none) (ha : PA X [e, e2] ta)
    (hs : starEach [e, e2] X.env = (false, eval e X.env) :: starEach [e2] X.env := by rfl) (hpl : (backTo pos (starEach [e2] X.env)).any (·.1) = false := by rfl) (eK : X.K = K := by rfl) :
    PI X (.Tuple elts kk tpos) (.Call (.Name "zip" p) [e, e2] [] pos) (RZ.iZipA K ta) := eK ▸ RZ.pi_zipA hg hm ha hs hpl
end
theorem walk_zipT {K : PySem.W.Frag} {a b : Addr} {xs ys : List V} {n : Nat} (hn : n = min xs.length ys.length) : Walk (RZ.ItzT K a b) n (fun H => SqT K H a xs ∧ SqT K H b ys) (YPair (fun i => xs[i]?) (fun i => ys[i]?)) := by
  subst hn
  refine ⟨fun i _ hi q => ?_, fun _ q => ⟨xs, ys, q.1, q.2, by omega⟩, fun i H v H' _ q y => ?_⟩
  · have l1 : i < xs.length := by omega
    have l2 : i < ys.length := by omega
    exact ⟨xs, ys, xs[i], ys[i], q.1, q.2, by simp [l1], by simp [l2]⟩
  · obtain ⟨T, x, z, g1, g2, g3, g4, g5⟩ := y
    exact ⟨T, x, z, g1, g2, g3, g4 xs q.1, g5 ys q.2⟩
/-- three keywords, the last one first -/
def kwThree {α : Type} : List α → List α → List α
  | [], [c, b, a] => [a, b, c]
  | _, _ => []
theorem kwThree_rel {vs : List V} {us : List Value} {zs : List V} {ws : List Value} (a : Vals vs us) (b : Vals zs ws) : Vals (kwThree vs zs) (kwThree us ws) := by
  cases a with
  | cons _ _ => exact .nil
  | nil =>
    cases b with
    | nil => exact .nil
    | cons r t =>
      cases t with
      | nil => exact .nil
      | cons r2 t2 =>
        cases t2 with
        | nil => exact .nil
        | cons r3 t3 =>
          cases t3 with
          | nil => exact .cons r3 (.cons r2 (.cons r .nil))
          | cons _ _ => exact .nil
theorem kwThree_args {α : Type} {us ws : List α} (h : (kwThree us ws).length = 3) : ∃ x y z, us = [] ∧ ws = [x, y, z] := by
  match us, ws, h with
  | [], [x, y, z], _ => exact ⟨x, y, z, rfl, rfl⟩
  | [], [], h => exact absurd h (by simp [kwThree])
  | [], [_], h => exact absurd h (by simp [kwThree])
  | [], [_, _], h => exact absurd h (by simp [kwThree])
  | [], _ :: _ :: _ :: _ :: _, h => exact absurd h (by simp [kwThree])
  | _ :: _, _, h => exact absurd h (by simp [kwThree])
end SG

/-! Lemmas of the way to k54 that speak of no law. -/
namespace SG
open PySem PySem.Spec PyProof.Rows L2
section
variable {K : PySem.W.Frag}
theorem inV_int (k : Int) (ns : List Int) : inV (.int k) (ns.map V.int) = decide (k ∈ ns) := by
  unfold inV
  rw [List.any_map, Bool.eq_iff_iff, List.any_eq_true, decide_eq_true_eq]
  constructor
  · rintro ⟨x, hx, h⟩
    have h : (x == k) = true := h
    rw [← eq_of_beq h]
    exact hx
  · intro h
    exact ⟨k, h, (beq_self_eq_true k : (k == k) = true)⟩
theorem flat_ints (ns : List Int) : (ns.map V.int).all flatV = true := by
  rw [List.all_map, List.all_eq_true]
  exact fun _ _ => rfl
theorem get_int {ns : List Int} {i : Nat} {x : V} (h : (ns.map V.int)[i]? = some x) : ∃ k, x = .int k ∧ ns[i]? = some k := by
  rw [List.getElem?_map] at h
  obtain ⟨k, h1, h2⟩ := Option.map_eq_some_iff.mp h
  exact ⟨k, h2.symm, h1⟩
theorem int_nat {k : Int} (h : 0 ≤ k) : k = ((k.toNat : Nat) : Int) := by omega
/-- a row of answers, one for each of a row of whole numbers -/
theorem lc_bools {J : It} {G : Hp → Prop} {ns : List Int} {te : TE} {s : Nat} {σ : L2.St} {H1 : Hp} {D : Addr} {Qd : Hp → Prop} (w : Walk J (ns.map V.int).length G (YAt (ns.map V.int))) (hn : ns.length ≤ 1000) (hD : H1 D = none) (g : Int → Bool) (hG : ∀ H, Same H1 H → G H)
    (turn : ∀ (k : Int) (H2 : Hp), k ∈ ns → Same H1 H2 → ∀ R : VK, (∀ H3, Same H2 H3 → R (.bl (g k)) H3) → te ((wipe σ [s]).set s (some (.int k))) H2 R)
    (done : ∀ H2, Same H1 H2 → H2 D = some (.lst ((ns.map g).map V.bl)) → Qd H2) :
    ∃ W : Nat → Nat → Hp → Prop, (∃ m, W 0 m (upd H1 D (.lst []))) ∧ ∀ i m H, W i m H →
      (J.stop i H ∧ Qd H) ∨ (J.go i H ∧ ∃ Nx : Hp → Prop, (∀ H', Nx H' → ∃ m', m' < m ∧ W (i + 1) m' H') ∧ ∀ x H', J.yld i H x H' → gName s x (wipe σ [s]) H' fun σ2 H2 => wipe σ2 [s] = wipe σ [s] ∧ tYes σ2 H2 fun b H3 =>
        if b = true then te σ2 H3 fun y H4 => ∃ acc, H4 D = some (.lst acc) ∧ acc.length < sizeLine ∧ Nx (upd H4 D (.lst (acc ++ [y]))) else Nx H3) := by
  refine lc_same w (by rw [List.length_map]; exact hn) hD (fun i acc _ => acc = ((ns.map g).take i).map V.bl) rfl (fun _ _ _ _ _ h => h) hG ?_ ?_
  · rintro i x acc H5 H6 hi s5 rfl ⟨rfl, hx⟩ R N hR hN
    obtain ⟨k, rfl, hk⟩ := get_int hx
    refine ⟨wipe1 _ _ _, ?_⟩
    refine yesI (A := fun H7 => _) ?_
    refine turn k _ (List.mem_of_getElem? hk) s5 _ fun H3 s3 => hR _ _ s3 ?_
    rw [List.take_add_one, List.getElem?_map, hk]
    simp
  · rintro acc H5 s5 hl hD1 rfl
    rw [List.length_map, List.take_of_length_le (by rw [List.length_map]; exact Nat.le_refl _)] at hD1
    exact done H5 s5 hD1
theorem lc_nums {J : It} {G : Hp → Prop} {ns : List Int} {te : TE} {s : Nat} {σ : L2.St} {H1 : Hp} {D : Addr} {Qd : Hp → Prop} (w : Walk J (ns.map V.int).length G (YAt (ns.map V.int))) (hn : ns.length ≤ 1000) (hD : H1 D = none) (g : Int → Int) (hG : ∀ H, Same H1 H → G H)
    (turn : ∀ (k : Int) (H2 : Hp), k ∈ ns → Same H1 H2 → ∀ R : VK, (∀ H3, Same H2 H3 → R (.int (g k)) H3) → te ((wipe σ [s]).set s (some (.int k))) H2 R)
    (done : ∀ H2, Same H1 H2 → H2 D = some (.lst ((ns.map g).map V.int)) → Qd H2) :
    ∃ W : Nat → Nat → Hp → Prop, (∃ m, W 0 m (upd H1 D (.lst []))) ∧ ∀ i m H, W i m H →
      (J.stop i H ∧ Qd H) ∨ (J.go i H ∧ ∃ Nx : Hp → Prop, (∀ H', Nx H' → ∃ m', m' < m ∧ W (i + 1) m' H') ∧ ∀ x H', J.yld i H x H' → gName s x (wipe σ [s]) H' fun σ2 H2 => wipe σ2 [s] = wipe σ [s] ∧ tYes σ2 H2 fun b H3 =>
        if b = true then te σ2 H3 fun y H4 => ∃ acc, H4 D = some (.lst acc) ∧ acc.length < sizeLine ∧ Nx (upd H4 D (.lst (acc ++ [y]))) else Nx H3) := by
  refine lc_same w (by rw [List.length_map]; exact hn) hD (fun i acc _ => acc = ((ns.map g).take i).map V.int) rfl (fun _ _ _ _ _ h => h) hG ?_ ?_
  · rintro i x acc H5 H6 hi s5 rfl ⟨rfl, hx⟩ R N hR hN
    obtain ⟨k, rfl, hk⟩ := get_int hx
    refine ⟨wipe1 _ _ _, ?_⟩
    refine yesI (A := fun H7 => _) ?_
    refine turn k _ (List.mem_of_getElem? hk) s5 _ fun H3 s3 => hR _ _ s3 ?_
    rw [List.take_add_one, List.getElem?_map, hk]
    simp
  · rintro acc H5 s5 hl hD1 rfl
    rw [List.length_map, List.take_of_length_le (by rw [List.length_map]; exact Nat.le_refl _)] at hD1
    exact done H5 s5 hD1
/-- those of a row of whole numbers that pass -/
theorem lc_pass {J : It} {G : Hp → Prop} {ns : List Int} {tt : TT} {s : Nat} {σ : L2.St} {H1 : Hp} {D : Addr} {Qd : Hp → Prop} (w : Walk J (ns.map V.int).length G (YAt (ns.map V.int))) (hn : ns.length ≤ 1000) (hs : s < σ.length) (hD : H1 D = none) (g : Int → Bool) (hG : ∀ H, Same H1 H → G H)
    (turn : ∀ (k : Int) (H2 : Hp), k ∈ ns → Same H1 H2 → ∀ R : Bool → Hp → Prop, (∀ H3, Same H2 H3 → R (g k) H3) → tt ((wipe σ [s]).set s (some (.int k))) H2 R)
    (done : ∀ H2, Same H1 H2 → H2 D = some (.lst ((ns.filter g).map V.int)) → Qd H2) :
    ∃ W : Nat → Nat → Hp → Prop, (∃ m, W 0 m (upd H1 D (.lst []))) ∧ ∀ i m H, W i m H →
      (J.stop i H ∧ Qd H) ∨ (J.go i H ∧ ∃ Nx : Hp → Prop, (∀ H', Nx H' → ∃ m', m' < m ∧ W (i + 1) m' H') ∧ ∀ x H', J.yld i H x H' → gName s x (wipe σ [s]) H' fun σ2 H2 => wipe σ2 [s] = wipe σ [s] ∧ tt σ2 H2 fun b H3 =>
        if b = true then tVar s σ2 H3 fun y H4 => ∃ acc, H4 D = some (.lst acc) ∧ acc.length < sizeLine ∧ Nx (upd H4 D (.lst (acc ++ [y]))) else Nx H3) := by
  refine lc_same w (by rw [List.length_map]; exact hn) hD (fun i acc _ => acc = ((ns.take i).filter g).map V.int) rfl (fun _ _ _ _ _ h => h) hG ?_ ?_
  · rintro i x acc H5 H6 hi s5 rfl ⟨rfl, hx⟩ R N hR hN
    obtain ⟨k, rfl, hk⟩ := get_int hx
    refine ⟨wipe1 _ _ _, ?_⟩
    refine turn k _ (List.mem_of_getElem? hk) s5 _ fun H3 s3 => ?_
    have e : (ns.take (i + 1)).filter g = (ns.take i).filter g ++ (if g k = true then [k] else []) := by
      rw [List.take_add_one, hk, List.filter_append]
      congr 1
      by_cases e : g k = true <;> simp [e]
    by_cases e2 : g k = true
    · rw [e2]
      refine ifT rfl ⟨.int k, ?_, hR _ _ s3 ?_⟩
      · rw [List.getElem?_set_self (by rw [wipe_length]; exact hs)]
      · rw [e, if_pos e2, List.map_append]
        rfl
    · have e3 : g k = false := by simpa using e2
      rw [e3]
      refine ifF rfl (hN _ s3 ?_)
      rw [e, if_neg e2, List.append_nil]
  · rintro acc H5 s5 hl hD1 rfl
    rw [List.length_map, List.take_of_length_le (Nat.le_refl _)] at hD1
    exact done H5 s5 hD1
theorem atI_last {xs : List V} {x : V} : atI (xs ++ [x]) (-1) = some x := by
  unfold atI ixN
  rw [if_neg (by decide), List.length_append, List.length_singleton, if_pos (by omega)]
  have e : ((-1 : Int) + ((xs.length + 1 : Nat) : Int)).toNat = xs.length := by omega
  rw [e]
  show (xs ++ [x])[xs.length]? = some x
  rw [List.getElem?_append_right (Nat.le_refl _)]
  simp
theorem tups_upd {p : Addr} {H : Hp} {xs : List V} {o : HO} (h : H p = some (.lst xs)) : Tups H (upd H p o) := fun b u e nl => by
  have hb : b ≠ p := fun z => nl xs (Option.some.inj (e.symm.trans (by rw [z]; exact h)))
  rw [upd_ne hb]
  exact e
theorem sqT_tups {H H2 : Hp} (k : Tups H H2) {a : Addr} {zs : List V} (h : SqT K H a zs) : SqT K H2 a zs := by
  rcases h with (h | ⟨o, h⟩) | h
  · exact .inl (.inl (k _ _ h nofun))
  · exact .inl (.inr ⟨o, k _ _ h nofun⟩)
  · exact .inr h
theorem kept_upd {d l p : Addr} {H H2 : Hp} {o : HO} (k : Kept d l H H2) (n : H p = none) : Kept d l H (upd H2 p o) := fun b u e h1 h2 => by
  rw [upd_ne (ne_of_none e n)]
  exact k b u e h1 h2
theorem Dek.updN {d l p : Addr} {c : Nat} {H : Hp} {o : HO} (D : Dek H d l c) (h1 : p ≠ d) (h2 : p ≠ l) : Dek (L2.upd H p o) d l c := by
  obtain ⟨cs, m, n, e1, e2, e3⟩ := D
  exact ⟨cs, m, n, by rw [upd_ne (Ne.symm h1)]; exact e1, by rw [upd_ne (Ne.symm h2)]; exact e2, e3⟩
def rgI (n : Nat) : List Int := (List.range n).map fun (k : Nat) => (k : Int)
theorem rg_len (n : Nat) : (rgI n).length = n := by unfold rgI; simp
theorem rgV_eq (n : Nat) : rgV 0 (n : Int) = (rgI n).map V.int := by
  unfold rgV rgI
  rw [List.map_map]
  have e : ((n : Int) - 0).toNat = n := by omega
  rw [e]
  apply List.map_congr_left
  intro k _
  show V.int (0 + (k : Int)) = V.int (k : Int)
  rw [Int.zero_add]
theorem walk_enumT {a : Addr} {xs : List V} : Walk (IteT K a) xs.length (fun H => SqT K H a xs) (YPair (fun i => some (.int (i : Nat))) (fun i => xs[i]?)) := by
  refine ⟨fun i _ hi q => ⟨xs, xs[i], q, by simp [hi]⟩, fun _ q => ⟨xs, q, Nat.le_refl _⟩, fun i H v H' _ q y => ?_⟩
  obtain ⟨T, x, h1, h2, h3, h4⟩ := y
  exact ⟨T, .int (i : Nat), x, h1, h2, h3, rfl, h4 xs q⟩
/-- those of some data that a test doesn't take: none, if it takes all -/
theorem lc_none {J : It} {G : Hp → Prop} {xs : List V} {ds : List PyData} {tt : TT} {s : Nat} {σ : L2.St} {H1 : Hp} {D : Addr} {Qd : Hp → Prop} (w : Walk J xs.length G (YAt xs)) (ha : DxAll K H1 xs ds) (hn : xs.length ≤ 1000) (hs : s < σ.length) (hD : H1 D = none) (g : PyData → Bool) (hG : ∀ H, Same H1 H → G H)
    (turn : ∀ (x : V) (E : PyData) (H2 : Hp), E ∈ ds → Same H1 H2 → Dx K H2 x E → ∀ R : Bool → Hp → Prop, (∀ H3, Same H2 H3 → R (!g E) H3) → tt ((wipe σ [s]).set s (some x)) H2 R)
    (done : ∀ (acc : List V) (H2 : Hp), Same H1 H2 → H2 D = some (.lst acc) → acc.isEmpty = ds.all g → Qd H2) :
    ∃ W : Nat → Nat → Hp → Prop, (∃ m, W 0 m (upd H1 D (.lst []))) ∧ ∀ i m H, W i m H →
      (J.stop i H ∧ Qd H) ∨ (J.go i H ∧ ∃ Nx : Hp → Prop, (∀ H', Nx H' → ∃ m', m' < m ∧ W (i + 1) m' H') ∧ ∀ x H', J.yld i H x H' → gName s x (wipe σ [s]) H' fun σ2 H2 => wipe σ2 [s] = wipe σ [s] ∧ tt σ2 H2 fun b H3 =>
        if b = true then tVar s σ2 H3 fun y H4 => ∃ acc, H4 D = some (.lst acc) ∧ acc.length < sizeLine ∧ Nx (upd H4 D (.lst (acc ++ [y]))) else Nx H3) := by
  have lx := dxA_len ha
  refine lc_same w hn hD (fun i acc _ => acc.isEmpty = (ds.take i).all g) rfl (fun _ _ _ _ _ h => h) hG ?_ ?_
  · rintro i x acc H5 H6 hi s5 ea ⟨rfl, hx⟩ R N hR hN
    obtain ⟨E, h1, h2⟩ := dxA_get (dxA_same s5 ha) hx
    refine ⟨wipe1 _ _ _, ?_⟩
    refine turn x E _ (List.mem_of_getElem? h1) s5 h2 _ fun H3 s3 => ?_
    have e : (ds.take (i + 1)).all g = ((ds.take i).all g && g E) := by
      rw [List.take_add_one, h1, List.all_append]
      simp
    by_cases e2 : g E = true
    · rw [e2]
      refine ifF (by rfl) (hN _ s3 ?_)
      rw [e, e2, Bool.and_true]
      exact ea
    · have e3 : g E = false := by simpa using e2
      rw [e3]
      refine ifT rfl ⟨x, ?_, hR _ _ s3 ?_⟩
      · rw [List.getElem?_set_self (by rw [wipe_length]; exact hs)]
      · rw [e, e3, Bool.and_false]
        cases acc <;> rfl
  · rintro acc H5 s5 hl hD1 ea
    rw [lx, List.take_of_length_le (Nat.le_refl _)] at ea
    exact done acc H5 s5 hD1 ea
theorem eqv_ints : ∀ a b : List Int, PyData.eqv (.list (dI a)) (.list (dI b)) = decide (a = b)
  | [], [] => by simp [dI, PyData.eqv, PyData.eqvAll]
  | [], b :: r => by simp [dI, PyData.eqv, PyData.eqvAll]
  | a :: r, [] => by simp [dI, PyData.eqv, PyData.eqvAll]
  | a :: r, b :: t => by
    have ih := eqv_ints r t
    simp only [PyData.eqv] at ih
    show PyData.eqvAll (PyData.int a :: dI r) (PyData.int b :: dI t) = _
    simp only [PyData.eqvAll, PyData.eqv, ih]
    rw [Bool.eq_iff_iff]
    simp
/-- all but one object stays -/
def But (d : Addr) (H H2 : Hp) : Prop := ∀ b o, H b = some o → b ≠ d → H2 b = some o
theorem But.upd {d : Addr} {H H2 : Hp} {o : HO} (k : But d H H2) : But d H (upd H2 d o) := fun b x h hb => by
  rw [upd_ne hb]
  exact k _ _ h hb
theorem sqT_but {d : Addr} {H H2 : Hp} {kvs : List (Key × V)} (k : But d H H2) (hd : H d = some (.dK kvs)) {a : Addr} {zs : List V} (h : SqT K H a zs) : SqT K H2 a zs := by
  rcases h with (h | ⟨o, h⟩) | h
  · exact .inl (.inl (k _ _ h (ne_of h hd nofun)))
  · exact .inl (.inr ⟨o, k _ _ h (ne_of h hd nofun)⟩)
  · exact .inr h
theorem dx_kind_int {H : Hp} {x : V} {E : PyData} (h : Dx K H x E) (h1 : isIntLike E = true) (h2 : isBool E = false) : ∃ i, E = .int i ∧ x = .int i := by
  cases h with
  | int i => exact ⟨i, rfl, rfl⟩
  | bl b => cases h2
  | _ => cases h1
/-- a comprehension over range(n) whose turns draw so much each -/
theorem lc_drawsN {d l D : Addr} {c n m s : Nat} {te : TE} {σ : L2.St} {H1 : Hp} {Qd : Hp → Prop} {B : Hp → V → Prop} (BT : ∀ H H' x, Tups H H' → B H x → B H' x) (BK : ∀ H H' c x, Dek H d l c → Kept d l H H' → B H x → B H' x) (D0 : Dek H1 d l c) (hD : H1 D = none) (hn : n ≤ 1000)
    (turn : ∀ (i : Nat) (H2 : Hp), i < n → Dek H2 d l (c + m * i) → Kept d l H1 H2 → ∀ R : VK, (∀ (x : V) (H3 : Hp), B H3 x → Dek H3 d l (c + m * i + m) → Kept d l H2 H3 → R x H3) → te ((wipe σ [s]).set s (some (.int (0 + i)))) H2 R)
    (done : ∀ (xs : List V) (H2 : Hp), xs.length = n → (∀ x ∈ xs, B H2 x) → H2 D = some (.lst xs) → Dek H2 d l (c + m * n) → Kept d l H1 H2 → Qd H2) :
    ∃ W : Nat → Nat → Hp → Prop, (∃ m, W 0 m (upd H1 D (.lst []))) ∧ ∀ i m H, W i m H →
      ((Itr 0 n).stop i H ∧ Qd H) ∨ ((Itr 0 n).go i H ∧ ∃ Nx : Hp → Prop, (∀ H2, Nx H2 → ∃ m2, m2 < m ∧ W (i + 1) m2 H2) ∧ ∀ x H2, (Itr 0 n).yld i H x H2 → gName s x (wipe σ [s]) H2 fun σ2 H3 => wipe σ2 [s] = wipe σ [s] ∧ tYes σ2 H3 fun b H4 =>
        if b = true then te σ2 H4 fun y H5 => ∃ acc, H5 D = some (.lst acc) ∧ acc.length < sizeLine ∧ Nx (upd H5 D (.lst (acc ++ [y]))) else Nx H4) := by
  obtain ⟨nd, nl⟩ := D0.ne hD
  refine lc_range (fun i H2 => ∃ xs : List V, xs.length = i ∧ (∀ x ∈ xs, B H2 x) ∧ H2 D = some (.lst xs) ∧ Dek H2 d l (c + m * i) ∧ Kept d l H1 H2) ?_ ?_ ?_
  · exact ⟨[], rfl, (fun _ h => absurd h List.not_mem_nil), upd_same, D0.upd hD, .of (same_new hD)⟩
  · rintro i H2 hi ⟨xs, hx, hB, hD2, D2, k2⟩
    refine ⟨wipe1 _ _ _, ?_⟩
    refine yesI ?_
    refine turn i H2 hi D2 k2 _ fun x H3 hb D3 k3 => ⟨xs, k3 _ _ hD2 nd nl, ?_, xs ++ [x], by simp [hx], fun y hy => ?_, upd_same, ?_, ?_⟩
    · rw [hx]
      exact small1000 (by omega)
    · have tu := tups_upd (o := .lst (xs ++ [x])) (k3 _ _ hD2 nd nl)
      rcases List.mem_append.mp hy with h | h
      · exact BT _ _ _ tu (BK _ _ _ _ D2 k3 (hB y h))
      · rw [List.mem_singleton.mp h]; exact BT _ _ _ tu hb
    · have e : c + m * (i + 1) = c + m * i + m := by rw [Nat.mul_add, Nat.mul_one, Nat.add_assoc]
      rw [e]
      exact D3.updN nd nl
    · exact kept_upd (k2.trans k3) hD
  · rintro H2 ⟨xs, hx, hB, hD2, D2, k2⟩
    exact done xs H2 hx hB hD2 D2 k2
/-- those of a list that a test takes: none -/
theorem lc_empty {J : It} {G : Hp → Prop} {xs : List V} {tt : TT} {te : TE} {s : Nat} {σ : L2.St} {H1 : Hp} {D : Addr} {Qd : Hp → Prop} (w : Walk J xs.length G (YAt xs)) (hn : xs.length ≤ 1000) (hD : H1 D = none) (hG : ∀ H, Same H1 H → G H)
    (turn : ∀ (x : V) (H2 : Hp), x ∈ xs → Same H1 H2 → ∀ R : Bool → Hp → Prop, (∀ H3, Same H2 H3 → R false H3) → tt ((wipe σ [s]).set s (some x)) H2 R)
    (done : ∀ (H2 : Hp), Same H1 H2 → H2 D = some (.lst []) → Qd H2) :
    ∃ W : Nat → Nat → Hp → Prop, (∃ m, W 0 m (upd H1 D (.lst []))) ∧ ∀ i m H, W i m H →
      (J.stop i H ∧ Qd H) ∨ (J.go i H ∧ ∃ Nx : Hp → Prop, (∀ H', Nx H' → ∃ m', m' < m ∧ W (i + 1) m' H') ∧ ∀ x H', J.yld i H x H' → gName s x (wipe σ [s]) H' fun σ2 H2 => wipe σ2 [s] = wipe σ [s] ∧ tt σ2 H2 fun b H3 =>
        if b = true then te σ2 H3 fun y H4 => ∃ acc, H4 D = some (.lst acc) ∧ acc.length < sizeLine ∧ Nx (upd H4 D (.lst (acc ++ [y]))) else Nx H3) := by
  refine lc_same w hn hD (fun i acc _ => acc = []) rfl (fun _ _ _ _ _ h => h) hG ?_ ?_
  · rintro i x acc H5 H6 hi s5 rfl ⟨rfl, hx⟩ R N hR hN
    refine ⟨wipe1 _ _ _, ?_⟩
    refine turn x _ (List.mem_of_getElem? hx) s5 _ fun H3 s3 => ifF (by rfl) (hN _ s3 rfl)
  · rintro acc H5 s5 hl hD1 rfl
    exact done H5 s5 hD1
theorem cat_wx {d l : Addr} {c n b m t : Nat} {σ : L2.St} {H : Hp} {ta : TA} {N i j : Nat} {p : Addr} {xs : List V} {De : Ends} (e : σ[i]? = some (some (.ref p))) (hp : H p = some (.lst xs)) (it0 : ∀ x ∈ xs, Itm K d l n b m t H x) (lit : WxA K d l c n b m t σ H ta N) (dk : Dek H d l c) (hN : xs.length + N ≤ 1000)
    (q : ∀ (p2 : Addr) (ys : List V) (H2 : Hp), Same H H2 → Dek H2 d l c → p2 ≠ d → p2 ≠ l → H p2 = none → H2 p2 = some (.lst ys) → (∀ y ∈ ys, Itm K d l n b m t H2 y) → ys.length = xs.length + N → De.nx (σ.set j (some (.ref p2))) H2) :
    tAsg (tOp rCat (tVar i) (tLst ta)) (gName j) De σ H := by
  refine ⟨_, e, lit H _ (Same.refl H) dk fun zs H1 s1 dk1 it hl => ⟨Nat.le_of_lt (small1000 (by omega)), fun p1 np1 => ?_⟩⟩
  have s2 : Same H (upd H1 p1 (.lst zs)) := s1.trans (same_new np1)
  have dk2 := dk1.upd (o := .lst zs) np1
  have h1 : upd H1 p1 (.lst zs) p1 = some (.lst zs) := upd_same
  refine ⟨p, p1, xs, zs, rfl, rfl, s2 _ _ hp, h1, Nat.le_of_lt (small1000 (by omega)), fun p2 np2 => ?_⟩
  refine q p2 _ _ (s2.trans (same_new np2)) (dk2.upd np2) (dk2.ne np2).1 (dk2.ne np2).2 (s2.free np2) upd_same (fun y hy => ?_) (by rw [List.length_append, hl])
  rcases List.mem_append.mp hy with h | h
  · exact (it0 y h).same (s2.trans (same_new np2))
  · exact (it y h).same ((same_new np1).trans (same_new np2))
theorem dxA_ints {H : Hp} : ∀ {xs : List V} {ns : List Int}, DxAll K H xs (ns.map PyData.int) → xs = ns.map V.int
  | _, [], .nil => rfl
  | _, n :: ns, .cons a b => by
    cases a
    rw [dxA_ints b]
    rfl
theorem k_bm {X : Cx} {T id : String} {name : Str} {apos cpos : Pos} {o e : Expr} {es : List Expr} {to : TE} {t : TA} {r : V → List V → Hp → VK → Prop} (pa : PlainAttrs T) (slot : Slot T name id) (hty : typeOf (.builtin id) = pure (.type "method_descriptor")) (hm : MtR X id r) (ho : PE X o to) (ha : PA X (e :: es) t)
    (hbase : attributeBase o name X.env (eval o X.env) = eval o X.env := by rfl)
    (hfew : ((backTo cpos (starEach (e :: es) X.env)).all (fun x => !x.1) && (backToKw cpos (keywordEach [] X.env)).all (fun x => x.1.isSome)
      && decide ((e :: es).length + ([] : List Keyword).length + (if ([] : List Keyword).isEmpty then 0 else 1) < 30)) = true := by rfl)
    (hline : (apos.endLine == cpos.line) = true := by rfl) (hs : starEach (e :: es) X.env = (false, eval e X.env) :: starEach es X.env := by rfl) (hplain : (backTo cpos (starEach es X.env)).any (·.1) = false := by rfl) (eK : X.K = K := by rfl) :
    PE X (.Call (.Attribute o name apos) (e :: es) [] cpos) (tBM K T r to t) := by
  subst eK
  exact pe_bm pa slot hty hm ho ha hbase hfew hline hs hplain
theorem k_index {X : Cx} (e : X.K = K := by rfl) : MtR X "list.index" (rIndex K) := by
  subst e
  exact mt_index
theorem k_tupI {X : Cx} {tg e : Expr} {te : TE} (he : PE X e te) (eK : X.K = K := by rfl) : PI X tg e (iTup K te) := by
  subst eK
  exact pi_tup he
theorem k_listI {X : Cx} {tg e : Expr} {te : TE} (he : PE X e te) (eK : X.K = K := by rfl) : PI X tg e (iList K te) := by
  subst eK
  exact pi_list he
end
end SG

namespace SG
open PySem PySem.Spec PyProof.Rows L2
def topS (i : Nat) : Stmt := PySem.Challenge.pw_serialhouse_k44_trees_of_any_value.main.body.getD i (.Pass ⟨0, 0, 0, 0⟩)
abbrev s_is_integer : Stmt := topS 1
abbrev N_is_integer : List Str := ["thing"]
theorem sc_is_integer : FnScope N_is_integer ["thing"] (defScope s_is_integer) := ⟨rfl, rfl, rfl, by decide +kernel, rfl, by decide +kernel, by decide +kernel⟩
abbrev s_is_tuple_of : Stmt := topS 2
abbrev N_is_tuple_of : List Str := ["thing", "many"]
theorem sc_is_tuple_of : FnScope N_is_tuple_of ["thing", "many"] (defScope s_is_tuple_of) := ⟨rfl, rfl, rfl, by decide +kernel, rfl, by decide +kernel, by decide +kernel⟩
abbrev s_reached : Stmt := topS 4
abbrev N_reached : List Str := ["starts", "table", "met", "waiting", "state", "goal"]
theorem sc_reached : FnScope N_reached ["starts", "table"] (defScope s_reached) := ⟨rfl, rfl, rfl, by decide +kernel, rfl, by decide +kernel, by decide +kernel⟩
abbrev s_is_tree : Stmt := topS 6
abbrev N_is_tree : List Str := ["many", "thing", "node"]
theorem sc_is_tree : FnScope N_is_tree ["many", "thing"] (defScope s_is_tree) := ⟨rfl, rfl, rfl, by decide +kernel, rfl, by decide +kernel, by decide +kernel⟩
abbrev s_is_node : Stmt := topS 7
abbrev N_is_node : List Str := ["many", "thing", "size", "place"]
theorem sc_is_node : FnScope N_is_node ["many", "thing", "size"] (defScope s_is_node) := ⟨rfl, rfl, rfl, by decide +kernel, rfl, by decide +kernel, by decide +kernel⟩
abbrev s_onward_nodes : Stmt := topS 8
abbrev N_onward_nodes : List Str := ["tree", "node", "pair", "place"]
theorem sc_onward_nodes : FnScope N_onward_nodes ["tree"] (defScope s_onward_nodes) := ⟨rfl, rfl, rfl, by decide +kernel, rfl, by decide +kernel, by decide +kernel⟩
abbrev s_tree_leaves : Stmt := topS 9
abbrev N_tree_leaves : List Str := ["many", "tree", "depth", "ways", "leaves", "_"]
theorem sc_tree_leaves : FnScope N_tree_leaves ["many", "tree", "depth"] (defScope s_tree_leaves) := ⟨rfl, rfl, rfl, by decide +kernel, rfl, by decide +kernel, by decide +kernel⟩
abbrev s_tossed : Stmt := topS 10
abbrev N_tossed : List Str := ["many", "tree", "ways", "onward", "leaves", "node", "place"]
theorem sc_tossed : FnScope N_tossed ["many", "tree", "ways"] (defScope s_tossed) := ⟨rfl, rfl, rfl, by decide +kernel, rfl, by decide +kernel, by decide +kernel⟩
abbrev s_walked : Stmt := topS 11
abbrev N_walked : List Str := ["many", "tree", "tosses", "node", "used", "toss"]
theorem sc_walked : FnScope N_walked ["many", "tree", "tosses"] (defScope s_walked) := ⟨rfl, rfl, rfl, by decide +kernel, rfl, by decide +kernel, by decide +kernel⟩
abbrev s__law_deck : Stmt := topS 13
abbrev N__law_deck : List Str := ["_law_script", "_law_cells", "_law_mixed", "_law_cell"]
theorem sc__law_deck : FnScope N__law_deck ["_law_script"] (defScope s__law_deck) := ⟨rfl, rfl, rfl, by decide +kernel, rfl, by decide +kernel, by decide +kernel⟩
abbrev s__law_draw : Stmt := topS 14
abbrev N__law_draw : List Str := ["_law_deck_here", "_law_much", "_law_turn", "_law_made", "_law_cell"]
theorem sc__law_draw : FnScope N__law_draw ["_law_deck_here", "_law_much"] (defScope s__law_draw) := ⟨rfl, rfl, rfl, by decide +kernel, rfl, by decide +kernel, by decide +kernel⟩
abbrev s__law_pick : Stmt := topS 15
abbrev N__law_pick : List Str := ["_law_deck_here", "_law_some"]
theorem sc__law_pick : FnScope N__law_pick ["_law_deck_here", "_law_some"] (defScope s__law_pick) := ⟨rfl, rfl, rfl, by decide +kernel, rfl, by decide +kernel, by decide +kernel⟩
abbrev s__law_tosses : Stmt := topS 16
abbrev N__law_tosses : List Str := ["_law_deck_here", "_law_limit", "_law_much", "_law_lean", "_law_k"]
theorem sc__law_tosses : FnScope N__law_tosses ["_law_deck_here", "_law_limit"] (defScope s__law_tosses) := ⟨rfl, rfl, rfl, by decide +kernel, rfl, by decide +kernel, by decide +kernel⟩
abbrev s__law_met : Stmt := topS 17
abbrev N__law_met : List Str := ["_law_nodes", "_law_order", "_law_at", "_law_it"]
theorem sc__law_met : FnScope N__law_met ["_law_nodes"] (defScope s__law_met) := ⟨rfl, rfl, rfl, by decide +kernel, rfl, by decide +kernel, by decide +kernel⟩
abbrev s__law_pruned : Stmt := topS 18
abbrev N__law_pruned : List Str := ["_law_nodes", "_law_order", "_law_k", "_law_it"]
theorem sc__law_pruned : FnScope N__law_pruned ["_law_nodes"] (defScope s__law_pruned) := ⟨rfl, rfl, rfl, by decide +kernel, rfl, by decide +kernel, by decide +kernel⟩
abbrev s__law_any_tree : Stmt := topS 19
abbrev N__law_any_tree : List Str := ["_law_deck_here", "_law_much", "_law_size", "_law_nodes", "_law_often", "_law_k", "_law_sides", "_law_side", "_law_piece", "_law_node"]
theorem sc__law_any_tree : FnScope N__law_any_tree ["_law_deck_here", "_law_much"] (defScope s__law_any_tree) := ⟨rfl, rfl, rfl, by decide +kernel, rfl, by decide +kernel, by decide +kernel⟩
abbrev s__law_even_tree : Stmt := topS 20
abbrev N__law_even_tree : List Str := ["_law_deck_here", "_law_much", "_law_wide", "_law_by", "_law_nodes", "_law_great", "_law_k", "_law_sides", "_law_spots", "_law_go", "_law_back", "_law_side", "_law_spot", "_law_node", "_law_it"]
theorem sc__law_even_tree : FnScope N__law_even_tree ["_law_deck_here", "_law_much"] (defScope s__law_even_tree) := ⟨rfl, rfl, rfl, by decide +kernel, rfl, by decide +kernel, by decide +kernel⟩
abbrev s__law_odd : Stmt := topS 21
abbrev N__law_odd : List Str := ["_law_deck_here", "_law_it", "_law_some"]
theorem sc__law_odd : FnScope N__law_odd ["_law_deck_here", "_law_it"] (defScope s__law_odd) := ⟨rfl, rfl, rfl, by decide +kernel, rfl, by decide +kernel, by decide +kernel⟩
abbrev s__law_bent : Stmt := topS 22
abbrev N__law_bent : List Str := ["_law_deck_here", "_law_it", "_law_at"]
theorem sc__law_bent : FnScope N__law_bent ["_law_deck_here", "_law_it"] (defScope s__law_bent) := ⟨rfl, rfl, rfl, by decide +kernel, rfl, by decide +kernel, by decide +kernel⟩
abbrev s__law_is_tree : Stmt := topS 23
abbrev N__law_is_tree : List Str := ["_law_much", "_law_it", "_law_node", "_law_side"]
theorem sc__law_is_tree : FnScope N__law_is_tree ["_law_much", "_law_it"] (defScope s__law_is_tree) := ⟨rfl, rfl, rfl, by decide +kernel, rfl, by decide +kernel, by decide +kernel⟩
abbrev s__law_due : Stmt := topS 24
abbrev N__law_due : List Str := ["_law_nodes", "_law_flips", "_law_at", "_law_used", "_law_toss"]
theorem sc__law_due : FnScope N__law_due ["_law_nodes", "_law_flips"] (defScope s__law_due) := ⟨rfl, rfl, rfl, by decide +kernel, rfl, by decide +kernel, by decide +kernel⟩
abbrev s__law_leaves : Stmt := topS 25
abbrev N__law_leaves : List Str := ["_law_much", "_law_nodes", "_law_level", "_law_ways", "_law_found", "_law_go", "_law_later", "_law_k", "_law_node", "_law_side"]
theorem sc__law_leaves : FnScope N__law_leaves ["_law_much", "_law_nodes", "_law_level"] (defScope s__law_leaves) := ⟨rfl, rfl, rfl, by decide +kernel, rfl, by decide +kernel, by decide +kernel⟩
abbrev s__law_told_right : Stmt := topS 26
abbrev N__law_told_right : List Str := ["_law_deck_here", "_law_much", "_law_nodes", "_law_go", "_law_flips", "_law_told", "_law_level"]
theorem sc__law_told_right : FnScope N__law_told_right ["_law_deck_here", "_law_much", "_law_nodes"] (defScope s__law_told_right) := ⟨rfl, rfl, rfl, by decide +kernel, rfl, by decide +kernel, by decide +kernel⟩
abbrev s__law_one_right : Stmt := topS 27
abbrev N__law_one_right : List Str := ["_law_much", "_law_it", "_law_was", "_law_due_here", "_law_told"]
theorem sc__law_one_right : FnScope N__law_one_right ["_law_much", "_law_it"] (defScope s__law_one_right) := ⟨rfl, rfl, rfl, by decide +kernel, rfl, by decide +kernel, by decide +kernel⟩
abbrev s_law : Stmt := topS 28
abbrev N_law : List Str := ["_law_script", "_law_deck_here", "_law_turn", "_law_much", "_law_nodes", "_law_bent_here", "_law_some", "_law_told", "_law_it"]
theorem sc_law : FnScope N_law ["_law_script"] (defScope s_law) := ⟨rfl, rfl, rfl, by decide +kernel, rfl, by decide +kernel, by decide +kernel⟩
structure Txt (mg : Str → Option Value) : Prop where
  all : mg "all" = none
  bool : mg "bool" = none
  dict : mg "dict" = none
  enumerate : mg "enumerate" = none
  int : mg "int" = none
  isinstance : mg "isinstance" = none
  len : mg "len" = none
  list : mg "list" = none
  range : mg "range" = none
  repr : mg "repr" = none
  str : mg "str" = none
  tuple : mg "tuple" = none
section
variable {P : Program} {w : World} {K : PySem.W.Frag} {mg : Str → Option Value} {base : Heap}

def spDraw : Sp := fun vs H Q _ => ∃ (d l : Addr) (c : Nat) (k : Int), vs = [.ref d, .int k] ∧ Deck H d l c ∧ c < 1000000 ∧ 0 < k ∧ k < 1073741824 ∧
  ∀ (r : Int) (H2 : Hp), 0 ≤ r → r < k → Deck H2 d l (c + 1) → Kept d l H H2 → Q (.int r) H2
theorem ok_draw {f : Addr} {fd : FuncData} (F : Fun K "_law_draw" "_law_draw" s__law_draw f fd) (T : Txt mg) : GFn P w K mg base CX0 1 f fd ["_law_deck_here", "_law_much"] spDraw := by
  refine gfun_ok F sc__law_draw (fun vs H Q E h => ?_) (fun cdv A outer s H vs Q E hgu hr h => ?_)
  · obtain ⟨d, l, c, k, rfl, _⟩ := h
    rfl
  · obtain ⟨d, l, c, k, rfl, D, hc, k0, k1', q⟩ := h
    have nd := sc__law_draw.nd
    refine ⟨_, (pss_cons (ps_dput (hu_of hr) (pv 0) pe_str (pe_op op_add (pe_dget (hu_of hr) (pv 0) pe_str (fun _ _ => rfl)) pe_int) rfl)
      (pss_cons (ps_par (i := 2) (j := 3) rfl nd rfl rfl (by decide) rfl rfl (pa_cons (pe_dget (hu_of hr) (pv 0) pe_str (fun _ _ => rfl)) (pa_cons (pe_dget (hu_of hr) (pv 0) pe_str (fun _ _ => rfl)) pa_nil)) (by rfl))
      (C8.pss_cut (ps_if (pt_cmpR (k_neD (K := K) hr.units) (pe_dget (hu_of hr) (pv 0) pe_str (fun _ _ => rfl)) (pe_lst pa_nil) (nomark _)) (pss_cons (ps_set (i := 4) nd rfl (Or.inl rfl) (pe_bm0 PySem.F.plainAttrs_list PySem.F.slot_list_pop PySem.F.type_list_pop mt_pop (pe_dget (hu_of hr) (pv 0) pe_str (fun _ _ => rfl))))
      (pss_cons (ps_if (pt_cmpR op_ge (pv 4) (pe_op op_pow pe_int pe_int) (nomark _)) (pss_cons (ps_expr (pe_bm PySem.F.plainAttrs_list PySem.F.slot_list_append PySem.F.type_list_append mt_append (pe_dget (hu_of hr) (pv 0) pe_str (fun _ _ => rfl)) (pa_cons (pe_op op_fdiv (pv 4) (pv 1)) pa_nil)))
      (pss_one (ps_ret (pe_op op_mod (pe_callTy call_int1 (by rfl) T.int (by decide +kernel) (pa_cons (pv 4) pa_nil)) (pv 1))))) pss_nil)
      (pss_one (ps_set (i := 3) nd rfl (Or.inl rfl) (pe_op op_add (pv 3) (pe_op op_mod (pe_callTy call_int1 (by rfl) T.int (by decide +kernel) (pa_cons (pv 4) pa_nil)) pe_int)))))) pss_nil)
      (pss_cons (ps_set (i := 3) nd rfl (Or.inl rfl) (pe_op op_mod (pe_callTy call_int1 (by rfl) T.int (by decide +kernel) (pa_cons (pe_op op_add (pe_op op_add (pv 3) (pe_op op_mul (pe_op op_mul pe_int (pv 2)) (pv 2))) pe_int) pa_nil)) pe_int))
      (pss_cons (ps_set (i := 3) nd rfl (Or.inl rfl) (pe_op op_mod (pe_callTy call_int1 (by rfl) T.int (by decide +kernel) (pa_cons (pe_op op_mul (pv 3) pe_int) pa_nil)) pe_int))
      (pss_cons (ps_set (i := 3) nd rfl (Or.inl rfl) (pe_op op_mod (pe_callTy call_int1 (by rfl) T.int (by decide +kernel) (pa_cons (pe_op op_add (pe_op op_add (pe_op op_mul (pv 3) (pv 3)) (pe_op op_mul pe_int (pv 2))) pe_int) pa_nil)) pe_int))
      (pss_one (ps_ret (pe_op op_mod (pe_op op_fdiv (pe_op op_mod (pe_callTy call_int1 (by rfl) T.int (by decide +kernel) (pa_cons (pe_op op_mul (pv 3) pe_int) pa_nil)) pe_int) pe_int) (pv 1)))))))))), ?_⟩
    obtain ⟨cs, m, n, hd, hl, hm, hn, hcs⟩ := D
    have dl : d ≠ l := ne_of hd hl nofun
    -- the count goes on
    refine ⟨_, rfl, d, _, rfl, dgDraws hd, _, _, rfl, rfl, _, rfl, d, _, rfl, dpDraws (n + 1) hd, ?_⟩
    have hd1 : upd H d (.dK (deckO l m (n + 1))) d = some (.dK (deckO l m (n + 1))) := upd_same
    have hl1 : upd H d (.dK (deckO l m (n + 1))) l = some (.lst (cs.map V.int)) := by rw [upd_ne dl.symm]; exact hl
    have k1 : Kept d l H (upd H d (.dK (deckO l m (n + 1)))) := fun b o e h1 _ => by rw [upd_ne h1]; exact e
    generalize upd H d (.dK (deckO l m (n + 1))) = H1 at hd1 hl1 k1 ⊢
    refine ⟨_, rfl, d, _, rfl, dgDraws hd1, _, rfl, d, _, rfl, dgMixed hd1, _, _, rfl, ?_⟩
    -- the cell that is left, if there is one; behind it what stands
    refine ⟨fun σ' H' => ∃ (x : Int) (y4 : Option V), σ' = [some (.ref d), some (.int k), some (.int (n + 1)), some (.int x), y4] ∧ Kept d l H H' ∧ H' d = some (.dK (deckO l m (n + 1))) ∧ ∃ cs2 : List Int, H' l = some (.lst (cs2.map V.int)) ∧ cs2.length ≤ 63, ?_, ?_⟩
    · refine ⟨_, rfl, d, _, rfl, dgCells hd1, ?_⟩
      refine ⟨Nat.zero_le _, fun p np => ?_⟩
      have hd2 : upd H1 p (.lst []) d = some (.dK (deckO l m (n + 1))) := by rw [upd_ne (ne_of_none hd1 np)]; exact hd1
      have hl2 : upd H1 p (.lst []) l = some (.lst (cs.map V.int)) := by rw [upd_ne (ne_of_none hl1 np)]; exact hl1
      have k2 : Kept d l H (upd H1 p (.lst [])) := k1.trans (.of (same_new np))
      refine ⟨.list (dI cs), .list [], .lst (SqL.of hl2) (dpInts cs), .lst (SqL.of upd_same) .nil, shI cs, rfl, ?_⟩
      generalize upd H1 p (.lst []) = H2 at hd2 hl2 k2 ⊢
      refine ⟨!cs.isEmpty, by rw [eqvI_nil], ?_⟩
      rcases List.eq_nil_or_concat cs with rfl | ⟨c0, z, rfl⟩
      · exact iteF ⟨m, none, rfl, k2, hd2, [], hl2, by simp⟩
      · rw [List.concat_eq_append] at hl2 hcs ⊢
        refine ifT (by simp) ?_
        have hl3 : upd H2 l (.lst (c0.map V.int)) l = some (.lst (c0.map V.int)) := upd_same
        have hd3 : upd H2 l (.lst (c0.map V.int)) d = some (.dK (deckO l m (n + 1))) := by rw [upd_ne dl]; exact hd2
        have k3 : Kept d l H (upd H2 l (.lst (c0.map V.int))) := k2.trans fun b o e _ h2 => by rw [upd_ne h2]; exact e
        have el : ((c0 ++ [z]).map V.int).dropLast = c0.map V.int := by simp
        have ey : ((c0 ++ [z]).map V.int)[((c0 ++ [z]).map V.int).length - 1]? = some (.int z) := by simp
        -- the last cell is taken
        refine ⟨_, rfl, d, _, rfl, dgCells hd2, .inl ⟨rfl, _, SqL.of hl2⟩, l, _, _, rfl, rfl, hl2, ey, ?_⟩
        rw [el]
        generalize upd H2 l (.lst (c0.map V.int)) = H3 at hd3 hl3 k3 ⊢
        refine ⟨_, rfl, _, _, rfl, rfl, ⟨by decide, by decide, by decide⟩, _, _, rfl, rfl, _, rfl, ite2 (fun _ => ?_) (fun _ => ?_)⟩
        · refine ⟨_, rfl, d, _, rfl, dgCells hd3, .inl ⟨rfl, _, SqL.of hl3⟩, _, rfl, _, rfl, _, _, rfl, rfl, ⟨k0, k1'⟩, l, _, _, rfl, rfl, hl3, ?_, ?_⟩
          · rw [List.length_map]
            exact Nat.lt_of_lt_of_le (Nat.lt_succ_of_le (by simp at hcs; omega : c0.length ≤ 62)) (by decide)
          · have k4 : Kept d l H (upd H3 l (.lst (c0.map V.int ++ [.int (z / k)]))) := k3.trans fun b o e _ h2 => by rw [upd_ne h2]; exact e
            refine ⟨_, rfl, .inl ⟨_, rfl, _, rfl, _, _, rfl, rfl, k0, ?_⟩⟩
            refine q _ _ (mod_lo k0) (mod_hi k0) ⟨c0 ++ [z / k], m, n + 1, by rw [upd_ne dl]; exact hd3, by rw [upd_same, List.map_append]; rfl, hm, ⟨by omega, by omega⟩, ?_⟩ k4
            simp at hcs ⊢
            omega
        · refine ⟨_, rfl, _, rfl, .inl ⟨_, rfl, _, _, rfl, rfl, (by show (0 : Int) < _; decide), _, _, rfl, rfl, ?_⟩⟩
          exact ⟨m + z % 2147483629, some (.int z), rfl, k3, hd3, c0, hl3, by simp at hcs; omega⟩
    · rintro σ' H3 ⟨x, y4, rfl, k3, h3, cs2, h4, h5⟩
      have t1 : 0 < n + 1 := by omega
      have t2 : n + 1 ≤ 1000000 := by omega
      have t3 : n + 1 ≤ ((c + 1 : Nat) : Int) := by omega
      generalize n + 1 = t at t1 t2 t3 h3 ⊢
      refine ⟨_, rfl, _, rfl, _, _, rfl, rfl, .inl (by omega), _, rfl, _, _, rfl, rfl, .inl (by omega), _, _, rfl, rfl, _, _, rfl, rfl, .inl ⟨_, rfl, _, _, rfl, rfl, (by show (0 : Int) < _; decide), ?_⟩⟩
      have w0 := mod_lo (a := x + 60497 * t * t + 544) (b := 2147483629) (by decide)
      have w1 := mod_hi (a := x + 60497 * t * t + 544) (b := 2147483629) (by decide)
      generalize (x + 60497 * t * t + 544) % 2147483629 = g at w0 w1 ⊢
      refine ⟨_, rfl, _, _, rfl, rfl, .inl (by omega), .inl ⟨_, rfl, _, _, rfl, rfl, (by show (0 : Int) < _; decide), ?_⟩⟩
      have x0 := mod_lo (a := g * 40692) (b := 2147483647) (by decide)
      have x1 := mod_hi (a := g * 40692) (b := 2147483647) (by decide)
      generalize g * 40692 % 2147483647 = e at x0 x1 ⊢
      refine ⟨_, rfl, _, rfl, _, _, rfl, rfl, .inl (by omega), _, rfl, _, _, rfl, rfl, .inl (by omega), _, _, rfl, rfl, _, _, rfl, rfl, .inl ⟨_, rfl, _, _, rfl, rfl, (by show (0 : Int) < _; decide), ?_⟩⟩
      have y0 := mod_lo (a := e * e + 69621 * t + 551) (b := 2147483587) (by decide)
      have y1 := mod_hi (a := e * e + 69621 * t + 551) (b := 2147483587) (by decide)
      generalize (e * e + 69621 * t + 551) % 2147483587 = j at y0 y1 ⊢
      refine ⟨_, rfl, _, _, rfl, rfl, .inl (by omega), .inl ⟨_, rfl, _, _, rfl, rfl, (by show (0 : Int) < _; decide), _, _, rfl, rfl, ⟨by decide, by decide⟩, _, rfl, _, _, rfl, rfl, k0, ?_⟩⟩
      exact q _ _ (mod_lo k0) (mod_hi k0) ⟨cs2, m, t, h3, h4, hm, ⟨by omega, t3⟩, h5⟩ k3
end
end SG

namespace SG
open PySem PySem.Spec PyProof.Rows L2
section
variable {P : Program} {w : World} {K : PySem.W.Frag} {mg : Str → Option Value} {base : Heap}

def spDeck (K : PySem.W.Frag) : Sp := fun vs H Q _ => ∃ (a : Addr) (ns : List Int), vs = [.ref a] ∧ SqL K H a (ns.map V.int) ∧ ns.length ≤ 63 ∧
  ∀ (d l : Addr) (H2 : Hp), Deck H2 d l 0 → Same H H2 → Q (.ref d) H2
theorem ok_deck {f : Addr} {fd : FuncData} (F : Fun K "_law_deck" "_law_deck" s__law_deck f fd) (T : Txt mg) : GFn P w K mg base CX0 1 f fd ["_law_script"] (spDeck K) := by
  refine gfun_ok F sc__law_deck (fun vs H Q E h => ?_) (fun cdv A outer s H vs Q E hgu hr h => ?_)
  · obtain ⟨a, ns, rfl, _⟩ := h
    rfl
  · obtain ⟨a, ns, rfl, hS, hlen, q⟩ := h
    have nd := sc__law_deck.nd
    refine ⟨_, (pss_cons (ps_par (i := 1) (j := 2) rfl nd rfl rfl (by decide) rfl rfl (pa_cons (pe_callTy (k_listOf (K := K)) (by rfl) T.list (by decide +kernel) (pa_cons (pe_slice (k_slL (K := K)) (pv 0) po_none (po_some pe_int)) pa_nil)) (pa_cons pe_int pa_nil)) (by rfl))
      (pss_cons (ps_for PassesOwn.never rfl (pi_list (pv 1)) (pg_name (i := 3) nd rfl (Or.inl rfl))
        (pss_one (ps_set (i := 2) nd rfl (Or.inl rfl) (pe_op op_mod (pe_callTy call_int1 (by rfl) T.int (by decide +kernel) (pa_cons (pe_op op_add (pe_op op_add (pe_op op_mul (pv 2) pe_int) (pe_op op_mod (pe_callTy call_int1 (by rfl) T.int (by decide +kernel) (pa_cons (pv 3) pa_nil)) pe_int)) pe_int) pa_nil)) pe_int))))
      (pss_one (ps_ret (pe_disp (pps_cons pe_str (k_rev (K := K) (pv 1)) (pps_cons pe_str (pv 2) (pps_cons pe_str pe_int pps_nil))) (by rfl) (by rfl) (fun z => by cases z) (by decide)))))), ?_⟩
    -- the script's copy
    refine ⟨.ref a, rfl, 63, rfl, a, _, rfl, hS, fun p np => ?_⟩
    have s1 : Same H (upd H p (.lst (cutV (ns.map V.int) none (some 63)))) := same_new np
    have e1 : cutV (ns.map V.int) none (some 63) = ns.map V.int := by
      unfold cutV
      rw [HT.sIx_none, show HT.sIx (ns.map V.int).length (ns.map V.int).length (some 63) = min 63 (ns.map V.int).length from HT.sIx_nat _ _ 63]
      rw [show min 63 (ns.map V.int).length = (ns.map V.int).length by rw [List.length_map]; omega]
      exact List.take_of_length_le (Nat.le_refl _)
    rw [e1] at s1 ⊢
    refine ⟨p, _, rfl, .inl (SqL.of upd_same), fun l nl => ?_⟩
    have s2 : Same H (upd (upd H p (.lst (ns.map V.int))) l (.lst (ns.map V.int))) := s1.trans (same_new nl)
    have hl : (upd (upd H p (.lst (ns.map V.int))) l (.lst (ns.map V.int))) l = some (.lst (ns.map V.int)) := upd_same
    generalize (upd (upd H p (.lst (ns.map V.int))) l (.lst (ns.map V.int))) = H1 at s2 hl ⊢
    refine ⟨_, _, rfl, ?_⟩
    -- the figure
    refine ⟨_, rfl, l, rfl, ⟨_, SqL.of hl⟩, for_list (K := K) (a := l) (xs := ns.map V.int) (fun i σ H2 => ∃ (m : Int) (y : Option V), σ = [some (.ref a), some (.ref l), some (.int m), y] ∧ (0 ≤ m ∧ m < 2147483648) ∧ H2 = H1)
      ⟨1086544, none, rfl, ⟨by decide, by decide⟩, rfl⟩ (fun i σ H2 _ ⟨_, _, _, _, e⟩ => e ▸ SqL.of hl) ?_ ?_⟩
    · rintro i y σ H2 hi ⟨m, y3, rfl, hm, rfl⟩
      obtain ⟨z, rfl⟩ : ∃ z, y = V.int z := by
        rw [List.getElem?_map] at hi
        obtain ⟨z, _, e⟩ := Option.map_eq_some_iff.mp hi
        exact ⟨z, e.symm⟩
      have u0 := mod_lo (a := z) (b := 2147483629) (by decide)
      have u1 := mod_hi (a := z) (b := 2147483629) (by decide)
      refine ⟨_, rfl, _, _, rfl, rfl, .inl (by omega), _, rfl, .inl ⟨_, rfl, _, _, rfl, rfl, (by show (0 : Int) < _; decide), _, _, rfl, rfl, _, _, rfl, rfl, .inl ⟨_, rfl, _, _, rfl, rfl, (by show (0 : Int) < _; decide), ?_⟩⟩⟩
      exact ⟨_, _, rfl, ⟨mod_lo (by decide), Int.lt_trans (mod_hi (by decide)) (by decide)⟩, rfl⟩
    · rintro σ H2 ⟨m, y3, rfl, hm, rfl⟩
      -- the deck
      refine fun d nd1 => ?_
      have t2 : Same H (upd H2 d (.dK [])) := s2.trans (same_new nd1)
      have hl3 : (upd H2 d (.dK [])) l = some (.lst (ns.map V.int)) := by rw [upd_ne (ne_of_none hl nd1)]; exact hl
      have hd3 : (upd H2 d (.dK [])) d = some (.dK []) := upd_same
      generalize upd H2 d (.dK []) = H3 at t2 hl3 hd3 ⊢
      refine ⟨.ref l, rfl, l, _, rfl, SqL.of hl3, fun r nr => ?_⟩
      have t4 : Same H (upd H3 r (.lst (ns.map V.int).reverse)) := t2.trans (same_new nr)
      have hd4 : (upd H3 r (.lst (ns.map V.int).reverse)) d = some (.dK []) := by rw [upd_ne (ne_of_none hd3 nr)]; exact hd3
      have hr4 : (upd H3 r (.lst (ns.map V.int).reverse)) r = some (.lst (ns.reverse.map V.int)) := by rw [upd_same, List.map_reverse]
      have nd0 : H d = none := s2.free nd1
      have nr0 : r ≠ d := (ne_of_none hd3 nr).symm
      generalize upd H3 r (.lst (ns.map V.int).reverse) = H4 at t4 hd4 hr4 ⊢
      refine ⟨_, rfl, hd4, deckO r m 0, rfl, (by show 3 ≤ 15; decide), ?_⟩
      rw [deck_made]
      refine q d r _ ⟨ns.reverse, m, 0, upd_same, by rw [upd_ne nr0]; exact hr4, hm, ⟨by decide, by decide⟩, by rw [List.length_reverse]; exact hlen⟩ fun b o e => ?_
      rw [upd_ne (ne_of_none e nd0)]
      exact t4 _ _ e

/-- one of a list's, a sign of a text -/
def spPick (K : PySem.W.Frag) : Sp := fun vs H Q _ => ∃ (d l : Addr) (c : Nat), Deck H d l c ∧ c < 1000000 ∧
  ((∃ (a : Addr) (xs : List V), vs = [.ref d, .ref a] ∧ SqL K H a xs ∧ a ≠ l ∧ xs ≠ [] ∧ xs.length ≤ 1000 ∧ ∀ (x : V) (H2 : Hp), x ∈ xs → Deck H2 d l (c + 1) → Kept d l H H2 → Q x H2) ∨
   (∃ z : Str, vs = [.ref d, .str z] ∧ 0 < z.length ∧ z.length ≤ 1000 ∧ ∀ (g : Nat) (H2 : Hp), g ∈ z.cps.toList → Deck H2 d l (c + 1) → Kept d l H H2 → Q (.str ⟨#[g]⟩) H2))
theorem ok_pick {f f1 : Addr} {fd fd1 : FuncData} (F : Fun K "_law_pick" "_law_pick" s__law_pick f fd) (F__law_draw : Fun K "_law_draw" "_law_draw" s__law_draw f1 fd1) (m__law_draw : mg "_law_draw" = some (.ref f1)) (b__law_draw : Binds K fd1 ["_law_deck_here", "_law_much"] []) (T : Txt mg) : GFn P w K mg base CX0 2 f fd ["_law_deck_here", "_law_some"] (spPick K) := by
  have G__law_draw : GFn P w K mg base CX0 1 f1 fd1 ["_law_deck_here", "_law_much"] spDraw := ok_draw F__law_draw T
  refine gfun_ok F sc__law_pick (fun vs H Q E h => ?_) (fun cdv A outer s H vs Q E hgu hr h => ?_)
  · obtain ⟨d, l, c, D, hc, ⟨a, xs, rfl, _⟩ | ⟨z, rfl, _⟩⟩ := h
    · rfl
    · rfl
  · obtain ⟨d, l, c, D, hc, h⟩ := h
    have nd := sc__law_pick.nd
    refine ⟨_, (pss_one (ps_ret (pe_ix (k_ix (K := K)) (pv 1) (pe_g G__law_draw hgu (hr.mono (by decide)) (by rfl) m__law_draw F__law_draw.kp b__law_draw .nil pass0 (pa_cons (pv 0) (pa_cons (pe_callB call_len (by rfl) T.len (by decide +kernel) (pa_cons (pv 1) pa_nil)) pa_nil))) (fun _ _ => rfl)))), ?_⟩
    rcases h with ⟨a, xs, rfl, hS, al, ne, hlen, q⟩ | ⟨z, rfl, z0, z1, q⟩
    · have pos : 0 < xs.length := List.length_pos_iff.mpr ne
      refine ⟨_, rfl, _, rfl, _, rfl, _, _, rfl, .inl ⟨xs, hS, rfl⟩, d, l, c, _, rfl, D, hc, by omega, by omega, fun r H2 r0 r1 D2 k2 => ?_⟩
      have hS2 := k2.lst D al hS
      obtain ⟨i, rfl⟩ : ∃ i : Nat, r = (i : Int) := ⟨r.toNat, by omega⟩
      have hi : i < xs.length := by omega
      exact .inl ⟨a, xs, i, xs[i], rfl, rfl, hS2, atI_nat (List.getElem?_eq_getElem hi), q _ _ (List.getElem_mem hi) D2 k2⟩
    · have ez : z.cps.toList.length = z.length := by simp [Str.length]
      have sz : z.length ≤ sizeLine := Nat.le_of_lt (small1000 z1)
      refine ⟨_, rfl, _, rfl, _, rfl, _, _, rfl, ⟨sz, rfl⟩, d, l, c, _, rfl, D, hc, by omega, by omega, fun r H2 r0 r1 D2 k2 => ?_⟩
      obtain ⟨i, rfl⟩ : ∃ i : Nat, r = (i : Int) := ⟨r.toNat, by omega⟩
      have hi : i < z.cps.toList.length := by omega
      exact .inr (.inr ⟨z, i, z.cps.toList[i], rfl, rfl, sz, atI_nat (List.getElem?_eq_getElem hi), q _ _ (List.getElem_mem hi) D2 k2⟩)
end
end SG

namespace SG
open PySem PySem.Spec PyProof.Rows L2 TL
open SX (S S_tl S_len)
section
variable {P : Program} {w : World} {K : PySem.W.Frag} {mg : Str → Option Value} {base : Heap}
def isBit (g : Nat) : Prop := g = 48 ∨ g = 49
def spTosses (K : PySem.W.Frag) : Sp := fun vs H Q _ => ∃ (d l : Addr) (c n : Nat), vs = [.ref d, .int n] ∧ Deck H d l c ∧ c < 900000 ∧ n ≤ 400 ∧
  ∀ (gs : List Nat) (H2 : Hp), gs.length ≤ n → (∀ g ∈ gs, isBit g) → Deck H2 d l (c + n + 2) → Kept d l H H2 → Q (.str (S gs)) H2
theorem ok_tosses {f f1 f2 : Addr} {fd fd1 fd2 : FuncData} (F : Fun K "_law_tosses" "_law_tosses" s__law_tosses f fd) (F__law_draw : Fun K "_law_draw" "_law_draw" s__law_draw f1 fd1) (m__law_draw : mg "_law_draw" = some (.ref f1)) (b__law_draw : Binds K fd1 ["_law_deck_here", "_law_much"] [])
    (F__law_pick : Fun K "_law_pick" "_law_pick" s__law_pick f2 fd2) (m__law_pick : mg "_law_pick" = some (.ref f2)) (b__law_pick : Binds K fd2 ["_law_deck_here", "_law_some"] []) (T : Txt mg) : GFn P w K mg base CX0 3 f fd ["_law_deck_here", "_law_limit"] (spTosses K) := by
  have G__law_draw : GFn P w K mg base CX0 1 f1 fd1 ["_law_deck_here", "_law_much"] spDraw := ok_draw F__law_draw T
  have G__law_pick : GFn P w K mg base CX0 2 f2 fd2 ["_law_deck_here", "_law_some"] (spPick K) := ok_pick F__law_pick F__law_draw m__law_draw b__law_draw T
  refine gfun_ok F sc__law_tosses (fun vs H Q E h => ?_) (fun cdv A outer s H vs Q E hgu hr h => ?_)
  · obtain ⟨d, l, c, n, rfl, _⟩ := h
    rfl
  · obtain ⟨d, l, c, n, rfl, D, hc, hn, q⟩ := h
    have nd := sc__law_tosses.nd
    refine ⟨_, (pss_cons (ps_asg (pe_tup (pa_cons (pe_g G__law_draw hgu (hr.mono (by decide)) (by rfl) m__law_draw F__law_draw.kp b__law_draw .nil pass0 (pa_cons (pv 0) (pa_cons (pe_op op_add (pv 1) pe_int) pa_nil))) (pa_cons (pe_g G__law_draw hgu (hr.mono (by decide)) (by rfl) m__law_draw F__law_draw.kp b__law_draw .nil pass0 (pa_cons (pv 0) (pa_cons pe_int pa_nil))) pa_nil))) (k_tg (K := K) (n := 2) rfl (pgs_cons (pg_name (i := 2) nd rfl (Or.inl rfl)) (pgs_cons (pg_name (i := 3) nd rfl (Or.inr rfl)) pgs_nil))))
      (pss_one (ps_ret (k_join (K := K) pe_str (pe_lc (own := [("_law_k", 4)]) rfl nd (pi_range1 rfl T.range (pa_cons (pv 2) pa_nil)) (blkOk_by (N := N__law_tosses) (sc := defScope s__law_tosses) (by decide +kernel)) (fun _ _ _ _ _ => (pg_name (i := 4) nd rfl (Or.inl rfl))) (fun _ _ _ _ _ => pts_nil) (fun _ _ _ _ _ => (pe_ifExp (PW.pt (pw_and (pt_cmpR op_eq (pv 3) pe_int (nomark _)) (pw_and1 (pt_cmpR op_gt (pe_op op_mod (pv 4) pe_int) pe_int (nomark _))))) pe_str (pe_g G__law_pick hgu (hr.mono (by decide)) (by rfl) m__law_pick F__law_pick.kp b__law_pick .nil pass0 (pa_cons (pv 0) (pa_cons pe_str pa_nil)))))))))), ?_⟩
    refine ⟨_, rfl, _, rfl, _, _, rfl, rfl, d, l, c, _, rfl, D, by omega, by omega, by omega, fun m H1 m0 m1 D1 k1 => ⟨_, rfl, d, l, c + 1, 4, rfl, D1, by omega, by decide, by decide, fun e H2 e0 e1 D2 k2 => ?_⟩⟩
    refine ⟨by show 2 ≤ sizeLine; decide, fun t nt => ⟨t, _, rfl, .inl (.inl upd_same), rfl, _, _, rfl, _, _, rfl, rfl, ?_⟩⟩
    have D3 := D2.upd (o := .tup [.int m, .int e]) nt
    have k3 : Kept d l H _ := (k1.trans k2).trans (.of (same_new (o := .tup [.int m, .int e]) nt))
    refine ⟨⟨_, rfl⟩, _, rfl, m, rfl, by omega, by omega, fun D nD => ?_⟩
    refine lc_drawsV (B := fun x => ∃ g, isBit g ∧ x = .str ⟨#[g]⟩) D3 nD (by omega) (fun i H4 hi D4 k4 R hR => ?_) (fun xs H4 hx hB he D4 k4 => ?_)
    · have pick : ∀ σ : L2.St, σ[0]? = some (some (.ref d)) → tCall (spPick K) [] E0 (tCons (tVar 0) (tCons (tC (.str "01")) tNil)) σ H4 R := fun σ eσ =>
        ⟨_, eσ, d, l, _, D4, by omega, .inr ⟨"01", rfl, by decide +kernel, by decide +kernel, fun g H5 hg D5 k5 => hR _ H5 ⟨g, by
          have : g = 48 ∨ g = 49 := by simpa using (show g ∈ [48, 49] from hg)
          exact this, rfl⟩ D5 k5⟩⟩
      have one : R (.str "1") H4 := hR (.str "1") H4 ⟨49, .inr rfl, rfl⟩ (D4.mono (by omega)) (Kept.refl _ _ _)
      refine ⟨_, rfl, rfl, _, rfl, ite2 (fun _ => ?_) (fun _ => iteF (pick _ rfl))⟩
      refine ⟨_, rfl, _, _, rfl, rfl, by show (0 : Int) < 7; decide, _, _, rfl, rfl, _, rfl, ite2 (fun _ => one) (fun _ => pick _ rfl)⟩
    · obtain ⟨gs, rfl, hg⟩ := signs_of hB
      have hl : gs.length = m.toNat := by simpa using hx
      refine ⟨_, D, _, rfl, rfl, .inl (SqL.of he), ?_, ?_⟩
      · rw [sum_ones]
        simp only [List.length_map]
        show gs.length + gs.length * 0 ≤ _
        omega
      · rw [join_signs]
        exact q gs H4 (by omega) hg (D4.mono (by omega)) (k3.trans k4)
end
end SG

namespace SG
open PySem PySem.Spec PyProof.Rows L2
section
variable {P : Program} {w : World} {K : PySem.W.Frag} {mg : Str → Option Value} {base : Heap}
section
variable {d l : Addr} {c n b m t : Nat} {σ : L2.St} {H : Hp}
theorem asg_wx {ta : TA} {N i : Nat} {ts : TS} {De : Ends} (lit : WxA K d l c n b m t σ H ta N) (dk : Dek H d l c) (hN : N ≤ 1000)
    (q : ∀ (p : Addr) (xs : List V) (H2 : Hp), Same H H2 → Dek H2 d l c → p ≠ d → p ≠ l → H2 p = some (.lst xs) → (∀ x ∈ xs, Itm K d l n b m t H2 x) → xs.length = N → ts De (σ.set i (some (.ref p))) H2) : tSeq (tAsg (tLst ta) (gName i)) ts De σ H :=
  lit H _ (Same.refl H) dk fun xs H1 s1 dk1 it hl => ⟨Nat.le_of_lt (small1000 (by omega)), fun p np => q p xs _ (s1.trans (same_new np)) (dk1.upd np) (dk1.ne np).1 (dk1.ne np).2 upd_same (fun x hx => (it x hx).same (same_new np)) hl⟩
theorem add_wx {ta : TA} {N i : Nat} (r : Nat) {p : Addr} {xs : List V} {De : Ends} (e : σ[i]? = some (some (.ref p))) (hp : H p = some (.lst xs)) (it0 : ∀ x ∈ xs, Itm K d l n b m t H x) (lit : WxA K d l c n b m t σ H ta N) (dk : Dek H d l c) (hr : r ≤ 3) (hN : xs.length + 3 * N ≤ 1000)
    (q : ∀ (p2 : Addr) (ys : List V) (H2 : Hp), Same H H2 → Dek H2 d l c → p2 ≠ d → p2 ≠ l → H2 p2 = some (.lst ys) → (∀ y ∈ ys, Itm K d l n b m t H2 y) → ys.length = xs.length + r * N → De.nx (σ.set i (some (.ref p2))) H2) :
    tAsg (tOp rCat (tVar i) (tOp rRep (tLst ta) (tC (V.int (r : Nat))))) (gName i) De σ H := by
  refine ⟨_, e, lit H _ (Same.refl H) dk fun zs H1 s1 dk1 it hl => ⟨Nat.le_of_lt (small1000 (by omega)), fun p1 np1 => ?_⟩⟩
  have it1 : ∀ x ∈ zs, Itm K d l n b m t (upd H1 p1 (.lst zs)) x := fun x hx => (it x hx).same (same_new np1)
  have dk2 := dk1.upd (o := .lst zs) np1
  have s2 : Same H (upd H1 p1 (.lst zs)) := s1.trans (same_new np1)
  have h1 : upd H1 p1 (.lst zs) p1 = some (.lst zs) := upd_same
  have lr : (List.replicate r zs).flatten.length = r * N := by rw [List.length_flatten, List.map_replicate, List.sum_replicate_nat, hl]
  have rN : r * N ≤ 3 * N := Nat.mul_le_mul_right _ hr
  refine ⟨p1, (r : Int), zs, rfl, rfl, h1, by omega, by omega, ?_, fun p3 np3 => ?_⟩
  · have : zs.length * r ≤ 1000 := by
      rw [hl, Nat.mul_comm]
      omega
    have e2 : ((r : Int)).toNat = r := rfl
    first
    | exact Nat.le_of_lt (small1000 this)
    | (show _ ≤ sizeLine; rw [e2]; exact Nat.le_of_lt (small1000 this))
  · have e2 : ((r : Int)).toNat = r := rfl
    rw [e2]
    have s3 : Same (upd H1 p1 (.lst zs)) (upd (upd H1 p1 (.lst zs)) p3 (.lst (List.replicate r zs).flatten)) := same_new np3
    refine ⟨p, p3, xs, (List.replicate r zs).flatten, rfl, rfl, (s2.trans s3) _ _ hp, upd_same, ?_, fun p4 np4 => ?_⟩
    · rw [lr]
      exact Nat.le_of_lt (small1000 (by omega))
    · have s4 := s3.trans (same_new (o := .lst (xs ++ (List.replicate r zs).flatten)) np4)
      have dk4 := (dk2.upd (o := .lst (List.replicate r zs).flatten) np3)
      refine q p4 _ _ (s2.trans s4) (dk4.upd np4) (dk4.ne np4).1 (dk4.ne np4).2 upd_same (fun y hy => ?_) (by rw [List.length_append, lr])
      rcases List.mem_append.mp hy with h | h
      · exact (it0 y h).same (s2.trans s4)
      · obtain ⟨ws, hw, hy2⟩ := List.mem_flatten.mp h
        rw [List.eq_of_mem_replicate hw] at hy2
        exact (it1 y hy2).same s4
end
/-- what is put in the place of something -/
def spOdd (K : PySem.W.Frag) : Sp := fun vs H Q _ => ∃ (d l : Addr) (c : Nat) (x : V) (n b m t : Nat), vs = [.ref d, x] ∧ Dek H d l c ∧ c < 1000000 ∧ Itm K d l n b m t H x ∧ 10 ^ 39 ≤ m ∧ m ≤ 10 ^ 40 ∧ b ≤ 400 ∧
  ∀ (y : V) (H2 : Hp), Itm K d l (n + 1) (2 * b + 200) (m + 1) (2 * t + 100) H2 y → Dek H2 d l (c + 1) → Kept d l H H2 → Q y H2
theorem asc_lit (z : Str) (h : (z.cps.toList.all fun c => decide (c < 128)) = true) : Asc z := fun c hc => of_decide_eq_true (List.all_eq_true.mp h c hc)
theorem Sx.lit {n b m t : Nat} (z : Str) (h : (z.cps.toList.all fun c => decide (c < 128)) = true) (h1 : z.length ≤ 50) : Sx n (2 * b + 200) m (2 * t + 100) (.str z) := Sx.str (asc_lit z h) (by omega) (by omega)
theorem one_le {x : PyData} : [x].length ≤ 1000 := by show 1 ≤ 1000; decide
theorem len_a : (Str.ofString "a").length = 1 := by decide +kernel
theorem len_e : (Str.ofString "").length = 0 := by decide +kernel
theorem isn_num {D : PyData} (h : isIntLike D = true) {K : PySem.W.Frag} {d l : Addr} {H : Hp} {x : V} (hx : Dy K d l H x D) : NumV x D := by
  cases hx with
  | int i => exact .inl ⟨i, rfl, rfl⟩
  | bl k => exact .inr ⟨k, rfl, rfl⟩
  | non => cases h
  | str _ => cases h
  | lst _ _ _ _ => cases h
  | tup _ _ => cases h
  | dct _ _ _ => cases h
theorem num_le {n b m t : Nat} {D : PyData} (s : Sx n b m t D) (h1 : 1 ≤ m) : (num D).natAbs ≤ m := by
  cases D with
  | int i =>
    have := s.fit
    simp only [fitD, decide_eq_true_eq] at this
    exact this
  | bool k => cases k <;> simp [num] <;> omega
  | _ => simp [num]
theorem num_len2 {D : PyData} (h : (num D).natAbs ≤ 10 ^ 40) : (numT D).length ≤ 62 := by
  cases D with
  | int i =>
    have e := int_text_length_le10 (a := i) (k := 61) (by decide) (Nat.lt_of_le_of_lt h (by decide +kernel))
    show (Str.ofString (toString i)).length ≤ 62
    rw [PySem.ofString_length]
    exact e
  | bool k => cases k <;> decide +kernel
  | _ =>
    show ("" : Str).length ≤ 62
    decide +kernel
theorem WxA.later {d l : Addr} {c n b m t : Nat} {σ : L2.St} {H H2 : Hp} {ta : TA} {N : Nat} (a : WxA K d l c n b m t σ H ta N) (s : Same H H2) : WxA K d l c n b m t σ H2 ta N := fun H3 Q s3 => a H3 Q (s.trans s3)
/-- while the list of things grows -/
def OddSt (K : PySem.W.Frag) (d l : Addr) (c n b m t : Nat) (x : V) (H : Hp) (M : Nat) (σ : L2.St) (H2 : Hp) : Prop := ∃ (p : Addr) (xs : List V), σ = [some (.ref d), some x, some (.ref p)] ∧ Same H H2 ∧ Dek H2 d l c ∧ p ≠ d ∧ p ≠ l ∧ H2 p = some (.lst xs) ∧ (∀ y ∈ xs, Itm K d l n b m t H2 y) ∧ xs ≠ [] ∧ xs.length ≤ M
theorem odd_if {d l : Addr} {c n b m t M N : Nat} (r : Nat) (hr : r ≤ 3) {x : V} {D : PyData} {H H2 : Hp} {σ : L2.St} {ta : TA} {rest : TS} {De : Ends} {Ty : String} {k : Bool} (hx : Dy K d l H x D) (hT : PySem.W.kitOne K (.type (kindOf D)) (.type Ty) = some k)
    (lit : k = true → ∀ p : Addr, WxA K d l c n b m t [some (.ref d), some x, some (.ref p)] H ta N) (hM : M + 3 * N ≤ 1000) (h : OddSt K d l c n b m t x H M σ H2) (q : ∀ σ3 H3, OddSt K d l c n b m t x H (M + 3 * N) σ3 H3 → rest De σ3 H3) :
    C8.tCut (tIfS (tB (tCB (rIsi K) (tCons (tVar 1) (tCons (tC (V.ty Ty)) tNil)))) (tAsg (tOp rCat (tVar 2) (tOp rRep (tLst ta) (tC (V.int (r : Nat))))) (gName 2)) tNext) rest De σ H2 := by
  obtain ⟨p, xs, rfl, s2, dk2, pd, pl, hp, it, ne, hl⟩ := h
  have rN : r * N ≤ 3 * N := Nat.mul_le_mul_right _ hr
  refine ⟨fun σ3 H3 => OddSt K d l c n b m t x H (M + 3 * N) σ3 H3, ?_, fun σ3 H3 h3 => q σ3 H3 h3⟩
  refine ⟨_, rfl, _, _, _, _, _, rfl, .ty Ty, dx_ty (dy_dx (dy_same s2 hx)), hT, _, rfl, ?_⟩
  cases k with
  | false => exact ifF rfl ⟨p, xs, rfl, s2, dk2, pd, pl, hp, it, ne, by omega⟩
  | true =>
    refine ifT rfl ?_
    refine add_wx (c := c) (n := n) (r := r) (b := b) (m := m) (t := t) (xs := xs) rfl hp it ((lit rfl p).later s2) dk2 hr (by omega) fun p2 ys H3 s3 dk3 n1 n2 hp2 it2 hl2 => ?_
    exact ⟨p2, ys, rfl, s2.trans s3, dk3, n1, n2, hp2, it2, fun z => ne (List.eq_nil_of_length_eq_zero (by rw [z] at hl2; simp at hl2; omega)), by omega⟩
theorem ok_odd {f f1 f2 : Addr} {fd fd1 fd2 : FuncData} (F : Fun K "_law_odd" "_law_odd" s__law_odd f fd) (F__law_draw : Fun K "_law_draw" "_law_draw" s__law_draw f1 fd1) (m__law_draw : mg "_law_draw" = some (.ref f1)) (b__law_draw : Binds K fd1 ["_law_deck_here", "_law_much"] [])
    (F__law_pick : Fun K "_law_pick" "_law_pick" s__law_pick f2 fd2) (m__law_pick : mg "_law_pick" = some (.ref f2)) (b__law_pick : Binds K fd2 ["_law_deck_here", "_law_some"] []) (T : Txt mg) : GFn P w K mg base CX0 3 f fd ["_law_deck_here", "_law_it"] (spOdd K) := by
  have G__law_pick : GFn P w K mg base CX0 2 f2 fd2 ["_law_deck_here", "_law_some"] (spPick K) := ok_pick F__law_pick F__law_draw m__law_draw b__law_draw T
  refine gfun_ok F sc__law_odd (fun vs H Q E h => ?_) (fun cdv A outer s H vs Q E hgu hr h => ?_)
  · obtain ⟨d, l, c, x, n, b, m, t, rfl, _⟩ := h
    rfl
  · obtain ⟨d, l, c, x, n, b, m, t, rfl, Dk, hc, ⟨D, hx, sx⟩, m0, m1, hb, q⟩ := h
    have nd := sc__law_odd.nd
    refine ⟨_, (pss_cons (ps_set (i := 2) nd rfl (Or.inl rfl) (pe_lst (pa_cons pe_non (pa_cons pe_bl (pa_cons pe_bl (pa_cons pe_int (pa_cons pe_int (pa_cons (pe_un un_neg pe_int) (pa_cons (pe_op op_pow pe_int pe_int) (pa_cons pe_str (pa_cons pe_str (pa_cons pe_str (pa_cons pe_str (pa_cons pe_str (pa_cons (pe_tup pa_nil) (pa_cons (pe_tup (pa_cons pe_int (pa_cons pe_int pa_nil))) (pa_cons (pe_tup (pa_cons pe_int (pa_cons pe_int pa_nil))) (pa_cons (pe_lst pa_nil) (pa_cons pe_dnewK pa_nil)))))))))))))))))))
      (C8.pss_cut (ps_if (pt_val (pe_callB (k_isi (K := K)) (by rfl) T.isinstance (by decide +kernel) (pa_cons (pv 1) (pa_cons (pe_bltn (v := .ty "int") (by rfl) T.int (by decide +kernel) rfl) pa_nil)))) (pss_one (ps_set (i := 2) nd rfl (Or.inl rfl) (pe_op op_cat (pv 2) (pe_op op_rep (pe_lst (pa_cons (pe_op op_addN (pv 1) pe_int) (pa_cons (pe_op op_subN (pv 1) pe_int) (pa_cons (pe_cmpR op_eqN (pv 1) pe_int (nomark _)) (pa_cons (pe_callTy call_strN (by rfl) T.str (by decide +kernel) (pa_cons (pv 1) pa_nil)) pa_nil))))) pe_int)))) pss_nil)
      (C8.pss_cut (ps_if (pt_val (pe_callB (k_isi (K := K)) (by rfl) T.isinstance (by decide +kernel) (pa_cons (pv 1) (pa_cons (pe_bltn (v := .ty "str") (by rfl) T.str (by decide +kernel) rfl) pa_nil)))) (pss_one (ps_set (i := 2) nd rfl (Or.inl rfl) (pe_op op_cat (pv 2) (pe_op op_rep (pe_lst (pa_cons (pe_op op_add_str (pv 1) pe_str) (pa_cons (pe_op op_add_str (pv 1) pe_str) (pa_cons (pe_slice sl_str (pv 1) (po_some pe_int) po_none) (pa_cons (pe_op op_add_str (pv 1) pe_str) (pa_cons (pe_tup (pa_cons (pv 1) pa_nil)) pa_nil)))))) pe_int)))) pss_nil)
      (C8.pss_cut (ps_if (pt_val (pe_callB (k_isi (K := K)) (by rfl) T.isinstance (by decide +kernel) (pa_cons (pv 1) (pa_cons (pe_bltn (v := .ty "tuple") (by rfl) T.tuple (by decide +kernel) rfl) pa_nil)))) (pss_one (ps_set (i := 2) nd rfl (Or.inl rfl) (pe_op op_cat (pv 2) (pe_op op_rep (pe_lst (pa_cons (pe_callTy (k_listOf (K := K)) (by rfl) T.list (by decide +kernel) (pa_cons (pv 1) pa_nil)) (pa_cons (pe_slice (k_slU (K := K)) (pv 1) (po_some pe_int) po_none) (pa_cons (pe_slice (k_slU (K := K)) (pv 1) po_none (po_some (pe_un un_neg pe_int))) (pa_cons (pe_op (k_catU (K := K)) (pv 1) (pe_slice (k_slU (K := K)) (pv 1) (po_some (pe_un un_neg pe_int)) po_none)) (pa_cons (pe_revX (K := K) (pv 1)) pa_nil)))))) pe_int)))) pss_nil)
      (pss_one (ps_ret (pe_g G__law_pick hgu (hr.mono (by decide)) (by rfl) m__law_pick F__law_pick.kp b__law_pick .nil pass0 (pa_cons (pv 0) (pa_cons (pv 2) pa_nil))))))))), ?_⟩
    have b0 : ∀ ds : List PyData, SxA n 5 m t ds → Sx (n + 1) (2 * b + 200) (m + 1) (2 * t + 100) (.tuple ds) := fun ds h => h.tuple.mono (Nat.le_refl _) (by omega) (by omega) (by omega)
    have two : ∀ i j : Int, i.natAbs ≤ m → j.natAbs ≤ m → SxA n 5 m t [.int i, .int j] := fun i j hi hj => ((SxA.one (b := 0) (Sx.int hi)).app (SxA.one (b := 0) (Sx.int hj))).mono (Nat.le_refl _) (by omega) (Nat.le_refl _) (Nat.le_refl _)
    have lit0 : WxA K d l c (n + 1) (2 * b + 200) (m + 1) (2 * t + 100) [some (.ref d), some x, none] H (tCons (tC V.non) (tCons (tC (V.bl true)) (tCons (tC (V.bl false)) (tCons (tC (V.int 0)) (tCons (tC (V.int 1)) (tCons (tUn (rU fun i => V.int (-i)) (tC (V.int 1))) (tCons (tOp (rI CPow fun i j => V.int (i ^ j.toNat)) (tC (V.int 10)) (tC (V.int 39)))
        (tCons (tC (V.str (Str.ofString ""))) (tCons (tC (V.str (Str.ofString "0"))) (tCons (tC (V.str (Str.ofString "1"))) (tCons (tC (V.str (Str.ofString "ends"))) (tCons (tC (V.str (Str.ofString "endless"))) (tCons (tTup tNil) (tCons (tTup (tCons (tC (V.int 0)) (tCons (tC (V.int 1)) tNil)))
        (tCons (tTup (tCons (tC (V.int 1)) (tCons (tC (V.int 2)) tNil))) (tCons (tLst tNil) (tCons tDNewK tNil))))))))))))))))) 17 := by
      refine .cons (WdE.non.to Sx.none) (.cons (WdE.bl.to (Sx.bool _)) (.cons (WdE.bl.to (Sx.bool _)) (.cons (WdE.int.to (Sx.int (by simp))) (.cons (WdE.int.to (Sx.int (by simp))) (.cons (WdE.neg.to (Sx.int (by simp))) (.cons ?_
        (.cons (WdE.str.to (Sx.lit _ (by decide +kernel) (by decide +kernel))) (.cons (WdE.str.to (Sx.lit _ (by decide +kernel) (by decide +kernel))) (.cons (WdE.str.to (Sx.lit _ (by decide +kernel) (by decide +kernel))) (.cons (WdE.str.to (Sx.lit _ (by decide +kernel) (by decide +kernel)))
        (.cons (WdE.str.to (Sx.lit _ (by decide +kernel) (by decide +kernel))) (.cons ?_ (.cons ?_ (.cons ?_ (.cons ?_ (.cons (WdE.dct.to (Sx.dict0 (by omega))) .nil))))))))))))))))
      · exact fun H1 Q _ dk k => ⟨_, _, rfl, rfl, ⟨by decide, by decide, by decide⟩, k _ H1 (Same.refl _) dk ⟨.int (10 ^ 39), .int _, Sx.int (by omega)⟩⟩
      · exact (WdE.tup .nil (by decide)).to (SxA.tuple .nil)
      · exact (WdE.tup (.cons .int (.cons .int .nil)) (by decide)).to (b0 _ (two 0 1 (by simp) (by simp; omega)))
      · exact (WdE.tup (.cons .int (.cons .int .nil)) (by decide)).to (b0 _ (two 1 2 (by simp; omega) (by simp; omega)))
      · exact (WdE.lst .nil (by decide)).to (SxA.list .nil)
    refine asg_wx lit0 Dk (by decide) fun p0 xs0 H1 s1 dk1 _ _ hp0 it0 hl0 => ?_
    have lt : isTup D = true → ∀ p : Addr, WxA K d l c (n + 1) (2 * b + 200) (m + 1) (2 * t + 100) [some (.ref d), some x, some (.ref p)] H (tCons (tCB (rListOf K) (tCons (tVar 1) tNil)) (tCons (tSl (rSlU K) (tVar 1) (tPart (tC (V.int 1))) tNoPart) (tCons (tSl (rSlU K) (tVar 1) tNoPart (tPart (tUn (rU fun i => V.int (-i)) (tC (V.int 1)))))
        (tCons (tOp (rCatU K) (tVar 1) (tSl (rSlU K) (tVar 1) (tPart (tUn (rU fun i => V.int (-i)) (tC (V.int 1)))) tNoPart)) (tCons (tRevX K (tVar 1)) tNil))))) 5 := by
      intro ht p
      obtain ⟨ds, rfl⟩ : ∃ ds, D = .tuple ds := by cases D <;> simp [isTup] at ht ⊢
      obtain ⟨n1, sa⟩ := sx.items
      have dl := bulkA_len ds
      have sb := sa.bulk
      have v : WdE K d l c [some (.ref d), some x, some (.ref p)] H (tVar 1) (.tuple ds) := .v rfl hx
      have up : ∀ {D2 : PyData} {b2 : Nat}, Sx (n - 1 + 1) b2 m t D2 → b2 ≤ 2 * b + 200 → Sx (n + 1) (2 * b + 200) (m + 1) (2 * t + 100) D2 := fun h h2 => h.mono (by omega) h2 (by omega) (by omega)
      have cl : ∀ o1 o2, (cutD ds o1 o2).length ≤ ds.length := fun o1 o2 => by unfold cutD; rw [List.length_take, List.length_drop]; omega
      refine .cons (v.listOf.to (up sa.list (by omega))) (.cons ((v.slc .int .no).to (up (sa.cutD _ _).tuple (by omega))) (.cons ((v.slc .no .neg).to (up (sa.cutD _ _).tuple (by omega))) (.cons ((v.cat (v.slc .neg .no) ?_).to (up (sa.app (sa.cutD _ _)).tuple (by omega)))
        (.cons (v.rev.to (up sa.rev.tuple (by omega))) .nil))))
      have := cl (some (-1)) none
      omega
    have ls : isStrD D = true → ∀ p : Addr, WxA K d l c (n + 1) (2 * b + 200) (m + 1) (2 * t + 100) [some (.ref d), some x, some (.ref p)] H (tCons (tOp (fun x y H Q => ∃ i j, x = V.str i ∧ y = V.str j ∧ i.length + j.length ≤ sizeLine ∧ Q (V.str (i ++ j)) H) (tVar 1) (tC (V.str (Str.ofString "0"))))
        (tCons (tOp (fun x y H Q => ∃ i j, x = V.str i ∧ y = V.str j ∧ i.length + j.length ≤ sizeLine ∧ Q (V.str (i ++ j)) H) (tVar 1) (tC (V.str (Str.ofString "1"))))
        (tCons (tSl rSlS (tVar 1) (tPart (tC (V.int 1))) tNoPart) (tCons (tOp (fun x y H Q => ∃ i j, x = V.str i ∧ y = V.str j ∧ i.length + j.length ≤ sizeLine ∧ Q (V.str (i ++ j)) H) (tVar 1) (tC (V.str (Str.ofString "2")))) (tCons (tTup (tCons (tVar 1) tNil)) tNil))))) 5 := by
      intro ht p
      obtain ⟨z, rfl⟩ : ∃ z, D = .str z := by cases D <;> simp [isStrD] at ht ⊢
      obtain rfl : x = .str z := by cases hx; rfl
      obtain ⟨za, zt, zb⟩ := sx.asc
      have v : WdE K d l c [some (.ref d), some (.str z), some (.ref p)] H (tVar 1) (.str z) := .v rfl hx
      have ap : ∀ y : Str, (y.cps.toList.all fun c => decide (c < 128)) = true → y.length = 1 → WxE K d l c (n + 1) (2 * b + 200) (m + 1) (2 * t + 100) [some (.ref d), some (.str z), some (.ref p)] H (tOp (fun x y H Q => ∃ i j, x = V.str i ∧ y = V.str j ∧ i.length + j.length ≤ sizeLine ∧ Q (V.str (i ++ j)) H) (tVar 1) (tC (V.str y))) := by
        intro y hy h1
        refine fun H1 Q1 _ dk k => ⟨_, rfl, _, _, rfl, rfl, ?_, k _ H1 (Same.refl _) dk ⟨_, .str _, Sx.str (asc_cat za (asc_lit _ hy)) ?_ ?_⟩⟩
        · rw [h1]
          exact Nat.le_of_lt (small1000 (by omega))
        · rw [len_cat, h1]
          omega
        · rw [len_cat, h1]
          omega
      refine .cons (ap _ (by decide +kernel) (by decide +kernel)) (.cons (ap _ (by decide +kernel) (by decide +kernel)) (.cons (fun H1 Q1 _ dk k => ⟨_, rfl, 1, rfl, z, rfl, ?_, k _ H1 (Same.refl _) dk ⟨_, .str _, Sx.str (cut_mem _ _ za).1 ?_ ?_⟩⟩) (.cons (ap _ (by decide +kernel) (by decide +kernel)) (.cons ((WdE.tup (.cons v .nil) one_le).to ?_) .nil))))
      · exact Nat.le_of_lt (small1000 (by omega))
      · have := (cut_mem (some 1) none za).2
        omega
      · have := (cut_mem (some 1) none za).2
        omega
      · exact (SxA.tuple (SxA.one sx)).mono (Nat.le_refl _) (by omega) (by omega) (by omega)
    have li : isIntLike D = true → ∀ p : Addr, WxA K d l c (n + 1) (2 * b + 200) (m + 1) (2 * t + 100) [some (.ref d), some x, some (.ref p)] H (tCons (tOp rAddN (tVar 1) (tC (V.int 1))) (tCons (tOp rSubN (tVar 1) (tC (V.int 1))) (tCons (tOp rEqN (tVar 1) (tC (V.int 1))) (tCons (tCB rStrN (tCons (tVar 1) tNil)) tNil)))) 4 := by
      intro ht p
      have hv := isn_num ht hx
      have nl := num_le sx (by omega)
      refine .cons (fun H1 Q1 _ dk k => ⟨_, rfl, D, 1, hv, rfl, k _ H1 (Same.refl _) dk ⟨_, .int _, Sx.int (by omega)⟩⟩) (.cons (fun H1 Q1 _ dk k => ⟨_, rfl, D, 1, hv, rfl, k _ H1 (Same.refl _) dk ⟨_, .int _, Sx.int (by omega)⟩⟩)
        (.cons (fun H1 Q1 _ dk k => ⟨_, rfl, D, 1, hv, rfl, k _ H1 (Same.refl _) dk ⟨_, .bl _, Sx.bool _⟩⟩) (.cons (fun H1 Q1 _ dk k => ⟨_, rfl, x, D, rfl, hv, ?_, k _ H1 (Same.refl _) dk ⟨_, .str _, Sx.str (num_asc D) ?_ ?_⟩⟩) .nil)))
      · have h1 : (num D).natAbs < 2 ^ 200 := Nat.lt_of_le_of_lt (Nat.le_trans nl m1) (by decide +kernel)
        exact Nat.lt_of_lt_of_le (PySem.Flt.log2_lt_of (by decide) h1) (by decide)
      · have := num_len2 (D := D) (Nat.le_trans nl m1)
        omega
      · have := num_len2 (D := D) (Nat.le_trans nl m1)
        omega
    have ne0 : xs0 ≠ [] := fun z => by rw [z] at hl0; cases hl0
    refine odd_if (M := 17) 3 (by decide) hx (isx_int D) li (by decide) ⟨p0, xs0, rfl, s1, dk1, by assumption, by assumption, hp0, it0, ne0, by omega⟩ fun σ2 H2 st2 => ?_
    refine odd_if 2 (by decide) hx (isx_str D) ls (by decide) st2 fun σ3 H3 st3 => ?_
    refine odd_if 2 (by decide) hx (isx_tuple D) lt (by decide) st3 fun σ4 H4 st4 => ?_
    obtain ⟨p, xs, rfl, s4, dk4, pd, pl, hp, it, ne, hl⟩ := st4
    refine ⟨_, rfl, _, rfl, d, l, c, dk4, hc, .inl ⟨p, xs, rfl, SqL.of hp, pl, ne, by omega, fun y H5 hy dk5 k5 => ?_⟩⟩
    exact q y H5 ((it y hy).kept dk4 k5) dk5 ((Kept.of s4).trans k5)
end
end SG

namespace SG
open PySem PySem.Spec PyProof.Rows L2
section
variable {P : Program} {w : World} {K : PySem.W.Frag} {mg : Str → Option Value} {base : Heap}
theorem cut_take (xs : List V) (n : Nat) : cutV xs none (some (n : Int)) = xs.take n := by
  unfold cutV
  rw [HT.sIx_none, HT.sIx_nat, List.drop_zero]
  rcases Nat.le_total n xs.length with h | h
  · rw [Nat.min_eq_left h]
    rfl
  · rw [Nat.min_eq_right h, List.take_of_length_le h]
    exact List.take_of_length_le (Nat.le_refl _)
theorem cut_drop (xs : List V) (n : Nat) : cutV xs (some (n : Int)) none = xs.drop n := by
  unfold cutV
  rw [HT.sIx_none, HT.sIx_nat]
  rcases Nat.le_total n xs.length with h | h
  · rw [Nat.min_eq_left h]
    exact List.take_of_length_le (by rw [List.length_drop]; omega)
  · rw [Nat.min_eq_right h, List.drop_length, List.drop_eq_nil_of_le h, List.take_nil]
theorem bulk_at {ds : List PyData} {i : Nat} {D : PyData} (h : ds[i]? = some D) : PyData.bulkAll (ds.take i) + (D.bulk + 1) + PyData.bulkAll (ds.drop (i + 1)) = PyData.bulkAll ds := by
  have hi : i < ds.length := (List.getElem?_eq_some_iff.mp h).1
  have e : ds = ds.take i ++ (D :: ds.drop (i + 1)) := by
    have e2 : ds.drop i = D :: ds.drop (i + 1) := by
      rw [List.drop_eq_getElem_cons hi]
      have : ds[i] = D := by
        rw [List.getElem?_eq_getElem hi] at h
        exact Option.some.inj h
      rw [this]
    rw [← e2, List.take_append_drop]
  have z := bulkA_app (ds.take i) (D :: ds.drop (i + 1))
  rw [← e] at z
  simp only [PyData.bulkAll] at z
  omega
/-- one place of a thing, at whatever depth, is another thing -/
def spBent (K : PySem.W.Frag) (N : Nat) : Sp := fun vs H Q _ => ∃ (d l : Addr) (c : Nat) (x : V) (n b m t : Nat), vs = [.ref d, x] ∧ Dek H d l c ∧ n < N ∧ c + 2 * n < 990000 ∧ Itm K d l n b m t H x ∧ 10 ^ 39 ≤ m ∧ m ≤ 10 ^ 40 ∧ b ≤ 400 ∧
  ∀ (y : V) (H2 : Hp), Itm K d l (n + 1) (2 * b + 200) (m + 1) (2 * t + 100) H2 y → Dek H2 d l (c + 2 * n + 2) → Kept d l H H2 → Q y H2
theorem ok_bent {f f1 f2 f3 : Addr} {fd fd1 fd2 fd3 : FuncData} (F : Fun K "_law_bent" "_law_bent" s__law_bent f fd) (m__law_bent : mg "_law_bent" = some (.ref f)) (b__law_bent : Binds K fd ["_law_deck_here", "_law_it"] [])
    (F__law_draw : Fun K "_law_draw" "_law_draw" s__law_draw f1 fd1) (m__law_draw : mg "_law_draw" = some (.ref f1)) (b__law_draw : Binds K fd1 ["_law_deck_here", "_law_much"] [])
    (F__law_pick : Fun K "_law_pick" "_law_pick" s__law_pick f2 fd2) (m__law_pick : mg "_law_pick" = some (.ref f2)) (b__law_pick : Binds K fd2 ["_law_deck_here", "_law_some"] [])
    (F__law_odd : Fun K "_law_odd" "_law_odd" s__law_odd f3 fd3) (m__law_odd : mg "_law_odd" = some (.ref f3)) (b__law_odd : Binds K fd3 ["_law_deck_here", "_law_it"] []) (T : Txt mg) :
    ∀ N : Nat, GFn P w K mg base CX0 (4 + N) f fd ["_law_deck_here", "_law_it"] (spBent K N) := by
  have F__law_bent := F
  have G__law_draw : GFn P w K mg base CX0 1 f1 fd1 ["_law_deck_here", "_law_much"] spDraw := ok_draw F__law_draw T
  have G__law_odd : GFn P w K mg base CX0 3 f3 fd3 ["_law_deck_here", "_law_it"] (spOdd K) := ok_odd F__law_odd F__law_draw m__law_draw b__law_draw F__law_pick m__law_pick b__law_pick T
  intro N
  induction N with
  | zero =>
    refine gfun_ok (k := 3) F sc__law_bent (fun vs H Q E h => ?_) (fun cdv A outer s H vs Q E hgu hr h => ?_)
    · obtain ⟨d, l, c, x, n, b, m, t, rfl, _, hn, _⟩ := h
      exact absurd hn (Nat.not_lt_zero _)
    · obtain ⟨d, l, c, x, n, b, m, t, rfl, _, hn, _⟩ := h
      exact absurd hn (Nat.not_lt_zero _)
  | succ N G__law_bent =>
    refine gfun_ok (k := 4 + N) F sc__law_bent (fun vs H Q E h => ?_) (fun cdv A outer s H vs Q E hgu hr h => ?_)
    · obtain ⟨d, l, c, x, n, b, m, t, rfl, _⟩ := h
      rfl
    · obtain ⟨d, l, c, x, n, b, m, t, rfl, Dk, hn, hc, ⟨D, hx, sx⟩, m0, m1, hb, q⟩ := h
      have nd := sc__law_bent.nd
      refine ⟨_, (pss_cons (ps_if (PW.pt (pw_or (pt_not (pt_val (pe_callB (k_isi (K := K)) (by rfl) T.isinstance (by decide +kernel) (pa_cons (pv 1) (pa_cons (pe_bltn (v := .ty "tuple") (by rfl) T.tuple (by decide +kernel) rfl) pa_nil))))) (pw_or (pt_cmpR (k_eqE (K := K) hr.units) (pv 1) (pe_tup pa_nil) (nomark _)) (pw_or1 (pt_cmpR op_eq (pe_g G__law_draw hgu (hr.mono (by omega)) (by rfl) m__law_draw F__law_draw.kp b__law_draw .nil pass0 (pa_cons (pv 0) (pa_cons pe_int pa_nil))) pe_int (nomark _)))))) (pss_one (ps_ret (pe_g G__law_odd hgu (hr.mono (by omega)) (by rfl) m__law_odd F__law_odd.kp b__law_odd .nil pass0 (pa_cons (pv 0) (pa_cons (pv 1) pa_nil))))) pss_nil)
      (pss_cons (ps_set (i := 2) nd rfl (Or.inl rfl) (pe_g G__law_draw hgu (hr.mono (by omega)) (by rfl) m__law_draw F__law_draw.kp b__law_draw .nil pass0 (pa_cons (pv 0) (pa_cons (pe_callB (k_len (K := K)) (by rfl) T.len (by decide +kernel) (pa_cons (pv 1) pa_nil)) pa_nil))))
      (pss_one (ps_ret (pe_op (k_catU (K := K)) (pe_op (k_catU (K := K)) (pe_slice (k_slU (K := K)) (pv 1) po_none (po_some (pv 2))) (pe_tup (pa_cons (pe_g G__law_bent hgu (hr.mono (by omega)) (by rfl) m__law_bent F__law_bent.kp b__law_bent .nil pass0 (pa_cons (pv 0) (pa_cons (pe_ix (k_ixT (K := K)) (pv 1) (pv 2) (fun _ _ => rfl)) pa_nil))) pa_nil))) (pe_slice (k_slU (K := K)) (pv 1) (po_some (pe_op op_add (pv 2) pe_int)) po_none)))))), ?_⟩
      have itm : ∀ {H1 : Hp}, Kept d l H H1 → Itm K d l n b m t H1 x := fun k => Itm.kept Dk k ⟨D, hx, sx⟩
      have fin : ∀ (c1 : Nat) (H1 : Hp), Dek H1 d l c1 → c1 ≤ c + 1 → Kept d l H H1 → ∀ De : Ends, De.rt = Q → tRet (tCall (spOdd K) [] E0 (tCons (tVar 0) (tCons (tVar 1) tNil))) De [some (.ref d), some x, none] H1 := by
        rintro c1 H1 D1 h1 k1 De rfl
        exact ⟨_, rfl, _, rfl, d, l, c1, x, n, b, m, t, rfl, D1, by omega, itm k1, m0, m1, hb, fun y H2 hy D2 k2 => q y H2 hy (D2.mono (by omega)) (k1.trans k2)⟩
      refine ⟨_, rfl, _, _, _, _, _, rfl, .ty "tuple", dx_ty (dy_dx hx), isx_tuple D, _, rfl, ?_⟩
      by_cases e : isTup D = true
      · obtain ⟨ds, rfl⟩ : ∃ ds, D = .tuple ds := by cases D <;> simp [isTup] at e ⊢
        obtain ⟨a, xs, rfl, hq, ha⟩ := dy_tuple hx
        obtain ⟨n1, sa⟩ := sx.items
        have lx := dyA_len ha
        have bl := bulkA_len ds
        have sb := sa.bulk
        refine ifF (by rw [e]; rfl) ⟨_, rfl, Nat.zero_le _, fun p np => ?_⟩
        have s1 : Same H (upd H p (.tup [])) := same_new np
        have D1 : Dek (upd H p (.tup [])) d l c := Dk.upd np
        have hp : SqT K (upd H p (.tup [])) p [] := .inl (.inl upd_same)
        generalize upd H p (.tup []) = H1 at s1 D1 hp ⊢
        refine ⟨a, p, xs, rfl, rfl, .inl ⟨sameT s1 hq, hp⟩, _, rfl, ?_⟩
        by_cases e0 : xs.isEmpty = true
        · refine ifT e0 (ifT rfl (fin c H1 D1 (by omega) (.of s1) _ rfl))
        · refine ifF (by simpa using e0) ?_
          have pos : 0 < xs.length := by
            cases xs with
            | nil => exact absurd rfl e0
            | cons _ _ => exact Nat.succ_pos _
          refine ⟨_, rfl, d, l, c, 5, rfl, D1, by omega, by decide, by decide, fun r H2 r0 r1 D2 k2 => ?_⟩
          have k2 : Kept d l H H2 := (Kept.of s1).trans k2
          refine ⟨rfl, _, rfl, ite2 (fun _ => ?_) (fun _ => ?_)⟩
          · exact fin (c + 1) H2 D2 (by omega) k2 _ rfl
          · have hq2 := k2.tupG Dk hq
            refine ⟨_, rfl, _, rfl, a, _, rfl, .inr hq2, d, l, c + 1, _, rfl, D2, by omega, by omega, by omega, fun j H3 j0 j1 D3 k3 => ?_⟩
            obtain ⟨i, rfl⟩ : ∃ i : Nat, j = (i : Int) := ⟨j.toNat, by omega⟩
            have hi : i < xs.length := by omega
            have k3 : Kept d l H H3 := k2.trans k3
            have hx3 := dy_kept Dk k3 hx
            have hq3 := k3.tupG Dk hq
            have ha3 := dyA_kept Dk k3 ha
            obtain ⟨Di, hDi, hxi⟩ := dyA_get ha3 (List.getElem?_eq_getElem hi)
            have mem := List.mem_of_getElem? hDi
            have bi := bulkA_mem mem
            have si : Sx (n - 1) (Di.bulk) m t Di := ⟨sa.dep _ mem, Nat.le_refl _, sa.fit _ mem⟩
            have e3 : cutV xs none (some (i : Int)) = xs.take i := cut_take xs i
            have e4 : cutV xs (some ((i : Int) + 1)) none = xs.drop (i + 1) := cut_drop xs (i + 1)
            refine ⟨_, rfl, _, rfl, i, rfl, a, xs, rfl, hq3, fun z H4 s4 h4 => ?_⟩
            rw [e3] at h4
            have D4 := D3.same s4
            have k4 : Kept d l H H4 := k3.trans (.of s4)
            refine ⟨_, rfl, _, rfl, _, rfl, a, xs, i, _, rfl, rfl, sameT s4 hq3, atI_nat (List.getElem?_eq_getElem hi), ?_⟩
            refine ⟨d, l, c + 1 + 1, _, n - 1, Di.bulk, m, t, rfl, D4, by omega, by omega, ⟨Di, dy_same s4 hxi, si⟩, m0, m1, by omega, fun y H5 ⟨Dr, hy, sy⟩ D5 k5 => ?_⟩
            refine ⟨by show 1 ≤ sizeLine; decide, fun p5 np5 => ?_⟩
            have s6 : Same H5 (upd H5 p5 (.tup [y])) := same_new np5
            have hp6 : SqT K (upd H5 p5 (.tup [y])) p5 [y] := .inl (.inl upd_same)
            have D6 : Dek (upd H5 p5 (.tup [y])) d l (c + 1 + 1 + 2 * (n - 1) + 2) := D5.upd np5
            generalize upd H5 p5 (.tup [y]) = H6 at s6 hp6 D6 ⊢
            have h46 : SqT K H6 z (xs.take i) := sameT s6 (k5.tupG D4 h4)
            have k6 : Kept d l H H6 := (k4.trans k5).trans (.of s6)
            have lt : (xs.take i).length ≤ 400 := by rw [List.length_take]; omega
            refine ⟨z, p5, _, _, rfl, rfl, h46, hp6, Nat.le_of_lt (small1000 (by rw [List.length_singleton]; omega)), fun z2 H7 s7 h7 => ?_⟩
            have k7 : Kept d l H H7 := k6.trans (.of s7)
            refine ⟨_, rfl, _, rfl, _, _, rfl, rfl, _, rfl, a, xs, rfl, k7.tupG Dk hq, fun z3 H8 s8 h8 => ?_⟩
            rw [e4] at h8
            have ld : (xs.drop (i + 1)).length ≤ 400 := by rw [List.length_drop]; omega
            refine ⟨z2, z3, _, _, rfl, rfl, sameT s8 h7, h8, Nat.le_of_lt (small1000 (by rw [List.length_append, List.length_singleton]; omega)), fun z4 H9 s9 h9 => ?_⟩
            have k9 : Kept d l H H9 := k7.trans ((Kept.of s8).trans (.of s9))
            have ha9 := dyA_kept Dk k9 ha
            have hy9 : Dy K d l H9 y Dr := dy_same (((s6.trans s7).trans s8).trans s9) hy
            have bt := bulk_at hDi
            have yb := sy.bulk
            have yd := sy.dep
            refine q (.ref z4) H9 ⟨.tuple (ds.take i ++ [Dr] ++ ds.drop (i + 1)), .tup h9 (dyA_app (dyA_app (dyA_take i ha9) (.cons hy9 .nil)) (dyA_drop (i + 1) ha9)), ?_⟩ ((((D6.same s7).same s8).same s9).mono (by omega)) k9
            refine (SxA.tuple (n := n) ⟨fun e he => ?_, ?_, fun e he => ?_⟩)
            · rcases List.mem_append.mp he with he | he
              · rcases List.mem_append.mp he with he | he
                · have := sa.dep e (List.mem_of_mem_take he)
                  omega
                · rw [List.mem_singleton.mp he]
                  omega
              · have := sa.dep e (List.mem_of_mem_drop he)
                omega
            · rw [bulkA_app, bulkA_app]
              simp only [PyData.bulkAll]
              omega
            · rcases List.mem_append.mp he with he | he
              · rcases List.mem_append.mp he with he | he
                · exact fit_mono (by omega) (by omega) _ (sa.fit e (List.mem_of_mem_take he))
                · rw [List.mem_singleton.mp he]
                  exact sy.fit
              · exact fit_mono (by omega) (by omega) _ (sa.fit e (List.mem_of_mem_drop he))
      · refine ifT (by simp [e]) ?_
        exact ifT rfl (fin c H Dk (by omega) (Kept.refl _ _ _) _ rfl)
end
end SG

namespace SG
/-- the pair of the node k -/
def nodeT (T : List (Int × Int)) (k : Int) : Int × Int := T.getD k.toNat (-1, -1)
/-- nodes to which the node 0 leads -/
inductive Reach (T : List (Int × Int)) : Int → Prop
  | zero : Reach T 0
  | fst {k : Int} (h : Reach T k) (h1 : 0 ≤ (nodeT T k).1) : Reach T (nodeT T k).1
  | snd {k : Int} (h : Reach T k) (h1 : 0 ≤ (nodeT T k).2) : Reach T (nodeT T k).2
/-- no side leads beyond the nodes -/
def GoodT (T : List (Int × Int)) : Prop := 1 ≤ T.length ∧ ∀ q ∈ T, q.1 < T.length ∧ q.2 < T.length
theorem nodeT_mem {T : List (Int × Int)} {k : Int} (h0 : 0 ≤ k) (h1 : k < T.length) : nodeT T k ∈ T := by
  unfold nodeT
  have hk : k.toNat < T.length := by omega
  rw [List.getD_eq_getElem?_getD, List.getElem?_eq_getElem hk]
  exact List.getElem_mem hk
theorem nodeT_at {T : List (Int × Int)} {k : Int} (h0 : 0 ≤ k) (h1 : k < T.length) : T[k.toNat]? = some (nodeT T k) := by
  unfold nodeT
  have hk : k.toNat < T.length := by omega
  rw [List.getD_eq_getElem?_getD, List.getElem?_eq_getElem hk]
  rfl
theorem Reach.lo {T : List (Int × Int)} (g : GoodT T) {k : Int} (h : Reach T k) : 0 ≤ k ∧ k < T.length := by
  induction h with
  | zero => have := g.1; omega
  | fst h h1 ih => exact ⟨h1, (g.2 _ (nodeT_mem ih.1 ih.2)).1⟩
  | snd h h1 ih => exact ⟨h1, (g.2 _ (nodeT_mem ih.1 ih.2)).2⟩
def addI (o : List Int) (x : Int) : List Int := if 0 ≤ x ∧ x ∉ o then o ++ [x] else o
theorem addI_nd {o : List Int} {x : Int} (h : o.Nodup) : (addI o x).Nodup := by
  unfold addI
  split
  · rename_i hx
    rw [List.nodup_append]
    exact ⟨h, by simp, fun a ha b hb e => by rw [List.mem_singleton.mp hb] at e; exact hx.2 (e ▸ ha)⟩
  · exact h
theorem addI_mem {o : List Int} {x k : Int} (h : k ∈ addI o x) : k ∈ o ∨ (k = x ∧ 0 ≤ x) := by
  unfold addI at h
  split at h
  · rename_i hx
    rcases List.mem_append.mp h with h | h
    · exact .inl h
    · exact .inr ⟨List.mem_singleton.mp h, hx.1⟩
  · exact .inl h
theorem addI_sub {o : List Int} {x k : Int} (h : k ∈ o) : k ∈ addI o x := by
  unfold addI
  split
  · exact List.mem_append_left _ h
  · exact h
theorem addI_has {o : List Int} {x : Int} (h : 0 ≤ x) : x ∈ addI o x := by
  unfold addI
  split
  · exact List.mem_append_right _ (List.mem_singleton.mpr rfl)
  · rename_i hx
    by_cases e : x ∈ o
    · exact e
    · exact absurd ⟨h, e⟩ hx
theorem addI_at {o : List Int} {x : Int} {i : Nat} (h : i < o.length) : (addI o x)[i]? = o[i]? := by
  unfold addI
  split
  · rw [List.getElem?_append_left h]
  · rfl
theorem addI_len {o : List Int} {x : Int} : o.length ≤ (addI o x).length := by
  unfold addI
  split
  · simp
  · exact Nat.le_refl _
/-- numbers below n, none twice: at most n -/
theorem nd_len : ∀ (n : Nat) {l : List Int}, l.Nodup → (∀ k ∈ l, 0 ≤ k ∧ k < n) → l.length ≤ n
  | 0, l, _, h => by
    cases l with
    | nil => exact Nat.le_refl _
    | cons a r => have := h a List.mem_cons_self; omega
  | n + 1, l, nd, h => by
    have h2 : (l.filter fun k => !decide (k = (n : Int))).length ≤ n := nd_len n (nd.filter _) fun k hk => by
      obtain ⟨h1, h2⟩ := List.mem_filter.mp hk
      have := h k h1
      have h3 : k ≠ n := by simpa using h2
      omega
    have h3 : ∀ {l : List Int}, l.Nodup → l.length ≤ (l.filter fun k => !decide (k = (n : Int))).length + 1 := by
      intro l nd
      induction l with
      | nil => simp
      | cons a r ih =>
        have nd2 := List.nodup_cons.mp nd
        by_cases e : a = n
        · have e2 : (r.filter fun k => !decide (k = (n : Int))) = r := by
            rw [List.filter_eq_self]
            intro k hk
            have : k ≠ n := fun z => nd2.1 (by rw [e, ← z]; exact hk)
            simpa using this
          simp [e, e2]
        · have := ih nd2.2
          simp only [List.filter_cons, e, decide_false, Bool.not_false, if_true, List.length_cons]
          omega
    have := h3 nd
    omega
/-- while nodes are met: those below at have been looked at -/
structure MetSt (T : List (Int × Int)) (o : List Int) (at_ : Nat) : Prop where
  nd : o.Nodup
  re : ∀ k ∈ o, Reach T k
  z : o[0]? = some 0
  le : at_ ≤ o.length
  cl : ∀ i k, i < at_ → o[i]? = some k → (0 ≤ (nodeT T k).1 → (nodeT T k).1 ∈ o) ∧ (0 ≤ (nodeT T k).2 → (nodeT T k).2 ∈ o)
theorem MetSt.start (T : List (Int × Int)) : MetSt T [0] 0 := ⟨by simp, fun k h => by rw [List.mem_singleton.mp h]; exact .zero, rfl, Nat.zero_le _, fun i k h => absurd h (Nat.not_lt_zero _)⟩
theorem MetSt.next {T : List (Int × Int)} {o : List Int} {a : Nat} {k : Int} (h : MetSt T o a) (e : o[a]? = some k) : MetSt T (addI (addI o (nodeT T k).1) (nodeT T k).2) (a + 1) := by
  have ha : a < o.length := (List.getElem?_eq_some_iff.mp e).1
  have rk : Reach T k := h.re k (List.mem_of_getElem? e)
  have l1 : o.length ≤ (addI o (nodeT T k).1).length := addI_len
  have l2 : (addI o (nodeT T k).1).length ≤ (addI (addI o (nodeT T k).1) (nodeT T k).2).length := addI_len
  refine ⟨addI_nd (addI_nd h.nd), fun j hj => ?_, ?_, by omega, fun i j hi hj => ?_⟩
  · rcases addI_mem hj with hj | ⟨rfl, h0⟩
    · rcases addI_mem hj with hj | ⟨rfl, h0⟩
      · exact h.re j hj
      · exact .fst rk h0
    · exact .snd rk h0
  · rw [addI_at (by omega), addI_at (by omega)]
    exact h.z
  · have hio : i < o.length := by omega
    rw [addI_at (by omega), addI_at hio] at hj
    by_cases e2 : i < a
    · obtain ⟨h1, h2⟩ := h.cl i j e2 hj
      exact ⟨fun z => addI_sub (addI_sub (h1 z)), fun z => addI_sub (addI_sub (h2 z))⟩
    · have : i = a := by omega
      rw [this, e] at hj
      cases hj
      exact ⟨fun z => addI_sub (addI_has z), fun z => addI_has z⟩
/-- all nodes that are reached, none twice -/
structure Met (T : List (Int × Int)) (o : List Int) : Prop where
  nd : o.Nodup
  mem : ∀ k, k ∈ o ↔ Reach T k
theorem MetSt.done {T : List (Int × Int)} {o : List Int} (h : MetSt T o o.length) : Met T o := by
  refine ⟨h.nd, fun k => ⟨h.re k, fun r => ?_⟩⟩
  induction r with
  | zero => exact List.mem_of_getElem? h.z
  | fst r h1 ih =>
    obtain ⟨i, hi⟩ := List.mem_iff_getElem?.mp ih
    exact (h.cl i _ (List.getElem?_eq_some_iff.mp hi).1 hi).1 h1
  | snd r h1 ih =>
    obtain ⟨i, hi⟩ := List.mem_iff_getElem?.mp ih
    exact (h.cl i _ (List.getElem?_eq_some_iff.mp hi).1 hi).2 h1
theorem MetSt.len {T : List (Int × Int)} {o : List Int} {a : Nat} (g : GoodT T) (h : MetSt T o a) : o.length ≤ T.length := nd_len _ h.nd fun k hk => (h.re k hk).lo g
theorem Met.len {T : List (Int × Int)} {o : List Int} (g : GoodT T) (h : Met T o) : o.length ≤ T.length := nd_len _ h.nd fun k hk => ((h.mem k).mp hk).lo g
/-- two rows of the same, none twice, are equally long -/
theorem same_len : ∀ {a b : List Int}, a.Nodup → b.Nodup → (∀ k, k ∈ a ↔ k ∈ b) → a.length = b.length
  | [], b, _, _, h => by
    cases b with
    | nil => rfl
    | cons x r => exact absurd ((h x).mpr List.mem_cons_self) List.not_mem_nil
  | x :: a, b, na, nb, h => by
    have na2 := List.nodup_cons.mp na
    have hx : x ∈ b := (h x).mp List.mem_cons_self
    have ih := same_len na2.2 (nb.erase x) fun k => by
      rw [List.Nodup.mem_erase_iff nb]
      constructor
      · intro hk
        exact ⟨fun e => na2.1 (e ▸ hk), (h k).mp (List.mem_cons_of_mem _ hk)⟩
      · rintro ⟨h1, h2⟩
        rcases List.mem_cons.mp ((h k).mpr h2) with e | e
        · exact absurd e h1
        · exact e
    have l := List.length_erase_of_mem hx
    have lb : 0 < b.length := List.length_pos_of_mem hx
    rw [List.length_cons]
    omega
theorem Met.len_eq {T : List (Int × Int)} {o p : List Int} (h : Met T o) (k : Met T p) : o.length = p.length := same_len h.nd k.nd fun x => (h.mem x).trans (k.mem x).symm
end SG
namespace SG
/-- a side of a tree among m things with n nodes -/
def OkS (m : Int) (n : Nat) (s : Int) : Prop := -m ≤ s ∧ s < n
def TreeT (m : Int) (T : List (Int × Int)) : Prop := 1 ≤ T.length ∧ ∀ q ∈ T, OkS m T.length q.1 ∧ OkS m T.length q.2
theorem TreeT.good {m : Int} {T : List (Int × Int)} (h : TreeT m T) : GoodT T := ⟨h.1, fun q hq => ⟨(h.2 q hq).1.2, (h.2 q hq).2.2⟩⟩
/-- its place among those that were met -/
def renI (o : List Int) (s : Int) : Int := if 0 ≤ s then (o.idxOf s : Nat) else s
def renP (T : List (Int × Int)) (o : List Int) (k : Int) : Int × Int := (renI o (nodeT T k).1, renI o (nodeT T k).2)
theorem idx_first : ∀ {o : List Int} {s : Int} {m : Nat} {z : Int}, m < o.idxOf s → o[m]? = some z → z ≠ s
  | [], s, m, z, h, e => by simp at e
  | a :: r, s, m, z, h, e => by
    rw [List.idxOf_cons] at h
    by_cases c : a = s
    · subst c
      simp at h
    · have c2 : (a == s) = false := by simpa using c
      rw [c2] at h
      cases m with
      | zero =>
        simp at e
        rw [← e]
        exact c
      | succ m =>
        have h3 : m < r.idxOf s := by simpa using h
        exact idx_first (m := m) h3 (by simpa using e)
theorem idx_at {o : List Int} {s : Int} (h : s ∈ o) : o[o.idxOf s]? = some s := by
  have hl := List.idxOf_lt_length_of_mem h
  rw [List.getElem?_eq_getElem hl, List.getElem_idxOf hl]
theorem renI_ok {T : List (Int × Int)} {o : List Int} {m : Int} (h : Met T o) {k : Int} (hk : k ∈ o) (h1 : -m ≤ (nodeT T k).1) (h2 : -m ≤ (nodeT T k).2) (hm : 0 ≤ m) : OkS m o.length (renP T o k).1 ∧ OkS m o.length (renP T o k).2 := by
  have rk := (h.mem k).mp hk
  constructor
  · show OkS m o.length (renI o (nodeT T k).1)
    unfold renI OkS
    split
    · rename_i h0
      have := List.idxOf_lt_length_of_mem ((h.mem _).mpr (.fst rk h0))
      omega
    · have := List.length_pos_of_mem hk
      omega
  · show OkS m o.length (renI o (nodeT T k).2)
    unfold renI OkS
    split
    · rename_i h0
      have := List.idxOf_lt_length_of_mem ((h.mem _).mpr (.snd rk h0))
      omega
    · have := List.length_pos_of_mem hk
      omega
theorem prune_tree {T : List (Int × Int)} {o : List Int} {m : Int} (g : GoodT T) (h : Met T o) (hs : ∀ q ∈ T, -m ≤ q.1 ∧ -m ≤ q.2) (hm : 0 ≤ m) : TreeT m (o.map (renP T o)) := by
  have z : (0 : Int) ∈ o := (h.mem 0).mpr .zero
  refine ⟨by rw [List.length_map]; exact List.length_pos_of_mem z, fun q hq => ?_⟩
  obtain ⟨k, hk, rfl⟩ := List.mem_map.mp hq
  have rk := ((h.mem k).mp hk).lo g
  have sk := hs _ (nodeT_mem rk.1 rk.2)
  rw [List.length_map]
  exact renI_ok h hk sk.1 sk.2 hm
end SG

namespace SG
def upI (b s : Int) : Int := if s < 0 then s else if s = 0 then b else s + 1
def upP (b : Int) (q : Int × Int) : Int × Int := (upI b q.1, upI b q.2)
theorem wrap_tree {m b : Int} {T : List (Int × Int)} (h : TreeT m T) (b0 : 0 ≤ b) (b1 : b ≤ 1) (hm : 0 ≤ m) : TreeT m ((1, 1) :: T.map (upP b)) := by
  have h1 := h.1
  have key : ∀ s, OkS m T.length s → OkS m (T.length + 1) (upI b s) := fun s hs => by
    unfold OkS at hs ⊢
    unfold upI
    split
    · omega
    · split <;> omega
  refine ⟨by simp, fun q hq => ?_⟩
  rw [List.length_cons, List.length_map]
  rcases List.mem_cons.mp hq with rfl | hq
  · unfold OkS
    dsimp only
    omega
  · obtain ⟨r, hr, rfl⟩ := List.mem_map.mp hq
    exact ⟨key _ (h.2 r hr).1, key _ (h.2 r hr).2⟩
end SG

namespace SG
open PySem PySem.Spec PyProof.Rows L2
section
variable {P : Program} {w : World} {K : PySem.W.Frag} {mg : Str → Option Value} {base : Heap}
/-- pairs of whole numbers -/
def NdAt (K : PySem.W.Frag) (H : Hp) (xs : List V) (T : List (Int × Int)) : Prop := Paired (fun (x : V) (q : Int × Int) => ∃ a, x = .ref a ∧ SqT K H a [.int q.1, .int q.2]) xs T
theorem NdAt.keep {H H2 : Hp} (k : ∀ a ys, SqT K H a ys → SqT K H2 a ys) : ∀ {xs : List V} {T : List (Int × Int)}, NdAt K H xs T → NdAt K H2 xs T
  | _, _, .nil => .nil
  | _, _, .cons ⟨a, e, h⟩ r => .cons ⟨a, e, k _ _ h⟩ (NdAt.keep k r)
theorem NdAt.len {H : Hp} : ∀ {xs : List V} {T : List (Int × Int)}, NdAt K H xs T → xs.length = T.length
  | _, _, .nil => rfl
  | _, _, .cons _ r => congrArg (· + 1) (NdAt.len r)
theorem NdAt.snoc {H : Hp} {x : V} {q : Int × Int} : ∀ {xs : List V} {T : List (Int × Int)}, NdAt K H xs T → (∃ a, x = .ref a ∧ SqT K H a [.int q.1, .int q.2]) → NdAt K H (xs ++ [x]) (T ++ [q])
  | _, _, .nil, h => .cons h .nil
  | _, _, .cons a r, h => .cons a (NdAt.snoc r h)
theorem NdAt.at {H : Hp} : ∀ {xs : List V} {T : List (Int × Int)} {i : Nat} {q : Int × Int}, NdAt K H xs T → T[i]? = some q → ∃ x a, xs[i]? = some x ∧ x = .ref a ∧ SqT K H a [.int q.1, .int q.2]
  | _, _, _, _, .nil, e => by simp at e
  | _, _, 0, _, .cons ⟨a, e2, h⟩ r, e => by
    simp at e
    subst e
    exact ⟨_, a, rfl, e2, h⟩
  | _, _, i + 1, q, .cons _ r, e => by
    obtain ⟨x, a, h1, h2, h3⟩ := NdAt.at (i := i) (q := q) r (by simpa using e)
    exact ⟨x, a, by simpa using h1, h2, h3⟩
/-- a list or tuple of pairs -/
def ND (K : PySem.W.Frag) (H : Hp) (a : Addr) (T : List (Int × Int)) : Prop := ∃ xs, (SqL K H a xs ∨ SqT K H a xs) ∧ NdAt K H xs T
theorem ND.same {H H2 : Hp} {a : Addr} {T : List (Int × Int)} (s : Same H H2) (h : ND K H a T) : ND K H2 a T := by
  obtain ⟨xs, h1, h2⟩ := h
  exact ⟨xs, h1.imp s.seq (sameT s), h2.keep fun _ _ h => sameT s h⟩
theorem ND.ix {H : Hp} {a : Addr} {T : List (Int × Int)} (h : ND K H a T) {k : Int} (h0 : 0 ≤ k) (h1 : k < T.length) {Q : VK} (q : ∀ p, SqT K H p [.int (nodeT T k).1, .int (nodeT T k).2] → Q (.ref p) H) : rIx K (.ref a) (.int k) H Q := by
  obtain ⟨xs, h2, h3⟩ := h
  obtain ⟨x, p, e1, rfl, e3⟩ := h3.at (nodeT_at h0 h1)
  have z := q p e3
  rcases h2 with h2 | h2
  · exact .inl ⟨a, xs, k.toNat, _, rfl, by rw [← int_nat h0], h2, atI_nat e1, z⟩
  · exact .inr (.inl ⟨a, xs, k.toNat, _, rfl, by rw [← int_nat h0], h2, atI_nat e1, z⟩)
def spMet (K : PySem.W.Frag) : Sp := fun vs H Q _ => ∃ (a : Addr) (T : List (Int × Int)), vs = [.ref a] ∧ ND K H a T ∧ GoodT T ∧ T.length ≤ 900 ∧
  ∀ (p : Addr) (o : List Int) (H2 : Hp), Same H H2 → H p = none → H2 p = some (.lst (o.map V.int)) → Met T o → Q (.ref p) H2
theorem ok_met {f : Addr} {fd : FuncData} (F : Fun K "_law_met" "_law_met" s__law_met f fd) (T : Txt mg) : GFn P w K mg base CX0 1 f fd ["_law_nodes"] (spMet K) := by
  refine gfun_ok F sc__law_met (fun vs H Q E h => ?_) (fun cdv A outer s H vs Q E hgu hr h => ?_)
  · obtain ⟨a, T2, rfl, _⟩ := h
    rfl
  · obtain ⟨a, T2, rfl, hn, gt, tl, q⟩ := h
    have nd := sc__law_met.nd
    refine ⟨_, (pss_cons (ps_par (i := 1) (j := 2) rfl nd rfl rfl (by decide) rfl rfl (pa_cons (pe_lst (pa_cons pe_int pa_nil)) (pa_cons pe_int pa_nil)) (by rfl))
      (pss_cons (ps_while PassesOwn.never (pt_cmpR op_lt (pv 2) (pe_callB (k_len (K := K)) (by rfl) T.len (by decide +kernel) (pa_cons (pv 1) pa_nil)) (nomark _)) (pss_cons (ps_for PassesOwn.never rfl (pi_tup (pe_ix (k_ix (K := K)) (pv 0) (pe_ix (k_ixL (K := K)) (pv 1) (pv 2) (fun _ _ => rfl)) (fun _ _ => rfl))) (pg_name (i := 3) nd rfl (Or.inl rfl))
        (pss_one (ps_if (PW.pt (pw_and (pt_cmpR op_ge (pv 3) pe_int (nomark _)) (pw_and1 (pt_cmpR (k_notin (K := K)) (pv 3) (pv 1) (by rfl))))) (pss_one (ps_expr (pe_bm PySem.F.plainAttrs_list PySem.F.slot_list_append PySem.F.type_list_append mt_append (pv 1) (pa_cons (pv 3) pa_nil)))) pss_nil)))
      (pss_one (ps_set (i := 2) nd rfl (Or.inl rfl) (pe_op op_add (pv 2) pe_int)))))
      (pss_one (ps_ret (pv 1))))), ?_⟩
    refine ⟨by show 1 ≤ sizeLine; decide, fun po npo => ⟨_, _, rfl, ?_⟩⟩
    have s1 : Same H (upd H po (.lst [.int 0])) := same_new npo
    have h1 : upd H po (.lst [.int 0]) po = some (.lst ([0].map V.int)) := upd_same
    generalize upd H po (.lst [.int 0]) = H1 at s1 h1 ⊢
    refine ⟨fun k σ HI => ∃ (o : List Int) (at_ : Nat) (y : Option V), σ = [some (.ref a), some (.ref po), some (.int (at_ : Nat)), y] ∧ k = T2.length - at_ ∧ Same H HI ∧ HI po = some (.lst (o.map V.int)) ∧ MetSt T2 o at_, ⟨_, [0], 0, none, rfl, rfl, s1, h1, .start T2⟩, ?_⟩
    rintro k σ HI ⟨o, at_, y, rfl, rfl, sI, hO, st⟩
    have lo := st.len gt
    refine ⟨_, rfl, _, rfl, po, _, rfl, .inl (SqL.of hO), _, _, rfl, rfl, _, rfl, ite2 (fun h2 => ?_) (fun h2 => ?_)⟩
    · have h2 : at_ < o.length := by
        have := of_decide_eq_true h2
        rw [List.length_map] at this
        omega
      obtain ⟨k, hk⟩ : ∃ k, o[at_]? = some k := ⟨_, List.getElem?_eq_getElem h2⟩
      have rk := (st.re k (List.mem_of_getElem? hk)).lo gt
      refine ⟨fun σ' H' => ∃ (o2 : List Int) (y2 : Option V), σ' = [some (.ref a), some (.ref po), some (.int ((at_ + 1 : Nat) : Int)), y2] ∧ Same H H' ∧ H' po = some (.lst (o2.map V.int)) ∧ MetSt T2 o2 (at_ + 1), ?_, ?_⟩
      · rintro σ' H' ⟨o2, y2, rfl, s3, h3, st2⟩
        have := st2.le
        have := st2.len gt
        exact ⟨T2.length - (at_ + 1), by omega, o2, at_ + 1, y2, rfl, rfl, s3, h3, st2⟩
      · refine ⟨_, rfl, _, rfl, _, rfl, po, _, at_, _, rfl, rfl, SqL.of hO, atI_nat (by rw [List.getElem?_map, hk]; rfl), (hn.same sI).ix rk.1 rk.2 fun pp hpp => ?_⟩
        refine ⟨pp, rfl, ⟨_, hpp⟩, for_it (walk_tup (K := K) (a := pp)) (fun j σ HK => ∃ (y2 : Option V), σ = [some (.ref a), some (.ref po), some (.int (at_ : Nat)), y2] ∧ Same H HK ∧ HK po = some (.lst (([(nodeT T2 k).1, (nodeT T2 k).2].take j).foldl addI o |>.map V.int)) ∧ SqT K HK pp [.int (nodeT T2 k).1, .int (nodeT T2 k).2])
          ⟨y, rfl, sI, hO, hpp⟩ (fun j σ HK _ ⟨_, _, _, _, h⟩ => h) ?_ ?_⟩
        · rintro j x σ HK HL hj ⟨y2, rfl, sK, hK, hpK⟩ ⟨rfl, hx⟩
          obtain ⟨it, rfl, hit⟩ := get_int (ns := [(nodeT T2 k).1, (nodeT T2 k).2]) hx
          have e : ([(nodeT T2 k).1, (nodeT T2 k).2].take (j + 1)).foldl addI o = addI (([(nodeT T2 k).1, (nodeT T2 k).2].take j).foldl addI o) it := by
            rw [List.take_add_one, hit, List.foldl_append]
            rfl
          rw [e]
          generalize hog : ([(nodeT T2 k).1, (nodeT T2 k).2].take j).foldl addI o = og at hK
          have log : og.length ≤ o.length + 2 := by
            rw [← hog]
            have key : ∀ (l : List Int) (o : List Int), (l.foldl addI o).length ≤ o.length + l.length := by
              intro l
              induction l with
              | nil => intro o; exact Nat.le_refl _
              | cons x r ih =>
                intro o
                have := ih (addI o x)
                have h2 : (addI o x).length ≤ o.length + 1 := by unfold addI; split <;> simp
                rw [List.foldl_cons, List.length_cons]
                omega
            have := key ([(nodeT T2 k).1, (nodeT T2 k).2].take j) o
            rw [List.length_take] at this
            have : ([(nodeT T2 k).1, (nodeT T2 k).2] : List Int).length = 2 := rfl
            omega
          refine ⟨_, rfl, _, _, rfl, rfl, _, rfl, ?_⟩
          by_cases e0 : (0 : Int) ≤ it
          · refine ifT (decide_eq_true e0) ⟨_, rfl, _, rfl, po, _, rfl, .inl (SqL.of hK), rfl, flat_ints _, _, rfl, ?_⟩
            rw [inV_int]
            by_cases e1 : it ∈ og
            · refine ifF (by simp [e1]) ⟨_, rfl, sK, ?_, hpK⟩
              unfold addI
              rw [if_neg (fun z => z.2 e1)]
              exact hK
            · refine ifT (by simp [e1]) ⟨_, rfl, .inl ⟨rfl, _, SqL.of hK⟩, _, rfl, po, _, _, rfl, rfl, hK, ?_, ?_⟩
              · rw [List.length_map]
                exact small1000 (by omega)
              · refine ⟨_, rfl, same_upd_of sK npo, ?_, ?_⟩
                · rw [upd_same]
                  unfold addI
                  rw [if_pos ⟨e0, e1⟩, List.map_append]
                  rfl
                · exact sqT_tups (tups_upd hK) hpK
          · refine ifF (decide_eq_false e0) (ifF rfl ⟨_, rfl, sK, ?_, hpK⟩)
            unfold addI
            rw [if_neg (fun z => e0 z.1)]
            exact hK
        · rintro σ HK ⟨y2, rfl, sK, hK, hpK⟩
          exact ⟨_, rfl, _, _, rfl, rfl, _, _, rfl, sK, hK, st.next hk⟩
    · have h2 : at_ = o.length := by
        have h3 : ¬ at_ < o.length := fun z => h2 (decide_eq_true (by rw [List.length_map]; omega))
        have := st.le
        omega
      exact ⟨_, rfl, q po o HI sI npo hO (MetSt.done (h2 ▸ st))⟩
end
end SG

namespace SG
open PySem PySem.Spec PyProof.Rows L2
section
variable {P : Program} {w : World} {K : PySem.W.Frag} {mg : Str → Option Value} {base : Heap}
theorem pair_map {H : Hp} {p : Addr} {g : Int → Int} {a b : Int} (h : H p = some (.tup (([a, b].map g).map V.int))) : SqT K H p [.int (g a), .int (g b)] := .inl (.inl h)
def spPruned (K : PySem.W.Frag) : Sp := fun vs H Q _ => ∃ (a : Addr) (T : List (Int × Int)) (xs : List V) (m : Int), vs = [.ref a] ∧ SqL K H a xs ∧ NdAt K H xs T ∧ GoodT T ∧ T.length ≤ 900 ∧ 0 ≤ m ∧ (∀ q ∈ T, -m ≤ q.1 ∧ -m ≤ q.2) ∧
  ∀ (p : Addr) (ys : List V) (T2 : List (Int × Int)) (H2 : Hp), Same H H2 → SqT K H2 p ys → NdAt K H2 ys T2 → TreeT m T2 → T2.length ≤ T.length → Q (.ref p) H2
theorem ok_pruned {f f1 : Addr} {fd fd1 : FuncData} (F : Fun K "_law_pruned" "_law_pruned" s__law_pruned f fd) (F__law_met : Fun K "_law_met" "_law_met" s__law_met f1 fd1) (m__law_met : mg "_law_met" = some (.ref f1)) (b__law_met : Binds K fd1 ["_law_nodes"] []) (T : Txt mg) : GFn P w K mg base CX0 2 f fd ["_law_nodes"] (spPruned K) := by
  have G__law_met : GFn P w K mg base CX0 1 f1 fd1 ["_law_nodes"] (spMet K) := ok_met F__law_met T
  refine gfun_ok F sc__law_pruned (fun vs H Q E h => ?_) (fun cdv A outer s H vs Q E hgu hr h => ?_)
  · obtain ⟨a, T2, xs, m, rfl, _⟩ := h
    rfl
  · obtain ⟨a, T2, xs, m, rfl, hS, hn, gt, tl, m0, hs, q⟩ := h
    have nd := sc__law_pruned.nd
    refine ⟨_, (pss_cons (ps_set (i := 1) nd rfl (Or.inr rfl) (pe_g G__law_met hgu (hr.mono (by decide)) (by rfl) m__law_met F__law_met.kp b__law_met .nil pass0 (pa_cons (pv 0) pa_nil)))
      (pss_one (ps_ret (pe_callTy (k_tupOf (K := K)) (by rfl) T.tuple (by decide +kernel) (pa_cons (pe_lc (own := [("_law_k", 2)]) rfl nd (pi_list (pv 1)) (blkOk_by (N := N__law_pruned) (sc := defScope s__law_pruned) (by decide +kernel)) (fun _ _ _ _ _ => (pg_name (i := 2) nd rfl (Or.inl rfl))) (fun _ _ _ _ _ => pts_nil) (fun _ _ _ _ _ => (pe_callTy (k_tupOf (K := K)) (by rfl) T.tuple (by decide +kernel) (pa_cons (pe_lc (own := [("_law_it", 3)]) rfl nd (k_tupI (K := K) (pe_ix (k_ixL (K := K)) (pv 0) (pv 2) (fun _ _ => rfl))) (blkOk_by (by rfl)) (fun _ _ _ _ _ => (pg_name (i := 3) nd rfl (Or.inl rfl))) (fun _ _ _ _ _ => pts_nil) (fun _ _ _ _ _ => (pe_ifExp (pt_cmpR op_ge (pv 3) pe_int (nomark _)) (k_bm (K := K) PySem.F.plainAttrs_list PySem.F.slot_list_index PySem.F.type_list_index (k_index (K := K)) (pv 1) (pa_cons (pv 3) pa_nil)) (pv 3)))) pa_nil)))) pa_nil))))), ?_⟩
    refine ⟨_, rfl, a, T2, rfl, ⟨xs, .inl hS, hn⟩, gt, tl, fun po o H1 s1 npo hO mt => ?_⟩
    have lo := mt.len gt
    refine ⟨_, rfl, po, rfl, ⟨_, SqL.of hO⟩, fun D1 nD1 => ?_⟩
    refine lc_same (walk_list (K := K) (a := po) (xs := o.map V.int)) (by rw [List.length_map]; omega) nD1 (fun i acc H3 => NdAt K H3 acc ((o.take i).map (renP T2 o))) .nil (fun _ _ _ _ k h => h.keep fun _ _ h => sqT_tups k h) (fun H5 s5 => s5.seq (SqL.of hO)) ?_ ?_
    · rintro i x acc H5 H6 hi s5 jn ⟨rfl, hx⟩ R N hR hN
      obtain ⟨k, rfl, hk⟩ := get_int hx
      have ko := List.mem_of_getElem? hk
      have rk := ((mt.mem k).mp ko).lo gt
      have s05 := s1.trans s5
      obtain ⟨xk, ak, e1, rfl, e3⟩ := (hn.keep fun _ _ h => sameT s05 h).at (nodeT_at rk.1 rk.2)
      refine ⟨wipe1 _ _ _, ?_⟩
      refine yesI (A := fun H7 => _) ?_
      refine ⟨_, rfl, _, rfl, a, xs, k.toNat, _, rfl, by rw [← int_nat rk.1], s05.seq hS, atI_nat e1, ak, rfl, ⟨_, e3⟩, fun D2 nD2 => ?_⟩
      refine lc_nums (ns := [(nodeT T2 k).1, (nodeT T2 k).2]) (walk_tup (K := K) (a := ak)) (by show 2 ≤ 1000; decide) nD2 (renI o) (fun H7 s7 => sameT s7 e3) (fun sd H7 hsd s7 R2 hR2 => ?_) (fun H7 s7 hD7 => ?_)
      · refine ⟨_, rfl, _, _, rfl, rfl, _, rfl, ?_⟩
        have so : 0 ≤ sd → sd ∈ o := fun h0 => by
          rcases List.mem_cons.mp hsd with rfl | h
          · exact (mt.mem _).mpr (.fst ((mt.mem k).mp ko) h0)
          · rw [List.mem_singleton.mp h] at h0 ⊢
            exact (mt.mem _).mpr (.snd ((mt.mem k).mp ko) h0)
        have z := hR2 H7 (Same.refl _)
        unfold renI at z
        by_cases e0 : (0 : Int) ≤ sd
        · rw [if_pos e0] at z
          have hO7 := s7 _ _ (s5 _ _ hO)
          refine ifT (decide_eq_true e0) ⟨_, rfl, .inl ⟨rfl, _, SqL.of hO7⟩, _, rfl, po, _, .int sd, o.idxOf sd, .int sd, rfl, rfl, SqL.of hO7, rfl, flat_ints _, by rw [List.getElem?_map, idx_at (so e0)]; rfl, by show (sd == sd) = true; simp, fun j z' hj hz => ?_, z⟩
          obtain ⟨zi, rfl, hzi⟩ := get_int hz
          have := idx_first hj hzi
          show (zi == sd) = false
          simpa using this
        · rw [if_neg e0] at z
          exact ifF (decide_eq_false e0) ⟨_, rfl, z⟩
      · refine ⟨D2, _, rfl, .inl ⟨SqL.of hD7, fun p np => hR _ _ (s7.trans (same_new np)) ?_⟩⟩
        have e : (o.take (i + 1)).map (renP T2 o) = (o.take i).map (renP T2 o) ++ [renP T2 o k] := by
          rw [List.take_add_one, hk, List.map_append]
          rfl
        rw [e]
        refine (jn.keep fun _ _ h => sameT (s7.trans (same_new np)) h).snoc ⟨p, rfl, ?_⟩
        exact pair_map (g := renI o) upd_same
    · intro acc H5 s5 hl hD1 jn
      rw [List.length_map, List.take_of_length_le (Nat.le_refl _)] at jn
      refine ⟨D1, acc, rfl, .inl ⟨SqL.of hD1, fun p np => ?_⟩⟩
      exact q p acc _ _ (s1.trans (s5.trans (same_new np))) (.inl (.inl upd_same)) (jn.keep fun _ _ h => sameT (same_new np) h) (prune_tree gt mt hs m0) (by rw [List.length_map]; exact lo)
end
end SG

namespace SG
open PySem PySem.Spec PyProof.Rows L2
section
variable {P : Program} {w : World} {K : PySem.W.Frag} {mg : Str → Option Value} {base : Heap}
theorem if_two {b : Bool} {A B : TE} {σ : L2.St} {H : Hp} {R : VK} {Pz : V → Hp → Prop} (key : ∀ x H5, Pz x H5 → R x H5) (hA : b = true → (∀ x H5, Pz x H5 → R x H5) → A σ H R) (hB : b = false → (∀ x H5, Pz x H5 → R x H5) → B σ H R) : if b = true then A σ H R else B σ H R := by
  cases b with
  | true => exact ifT rfl (hA rfl key)
  | false => exact ifF rfl (hB rfl key)
def spTree (K : PySem.W.Frag) : Sp := fun vs H Q _ => ∃ (d l : Addr) (c : Nat) (m : Int), vs = [.ref d, .int m] ∧ Dek H d l c ∧ c < 900000 ∧ 1 ≤ m ∧ m ≤ 6 ∧
  ∀ (p : Addr) (ys : List V) (T : List (Int × Int)) (H2 : Hp), SqT K H2 p ys → NdAt K H2 ys T → TreeT m T → T.length ≤ 12 → Dek H2 d l (c + 100) → Kept d l H H2 → Q (.ref p) H2
theorem ok_any {f f1 f2 f3 : Addr} {fd fd1 fd2 fd3 : FuncData} (F : Fun K "_law_any_tree" "_law_any_tree" s__law_any_tree f fd) (F__law_draw : Fun K "_law_draw" "_law_draw" s__law_draw f1 fd1) (m__law_draw : mg "_law_draw" = some (.ref f1)) (b__law_draw : Binds K fd1 ["_law_deck_here", "_law_much"] [])
    (F__law_met : Fun K "_law_met" "_law_met" s__law_met f2 fd2) (m__law_met : mg "_law_met" = some (.ref f2)) (b__law_met : Binds K fd2 ["_law_nodes"] []) (F__law_pruned : Fun K "_law_pruned" "_law_pruned" s__law_pruned f3 fd3) (m__law_pruned : mg "_law_pruned" = some (.ref f3)) (b__law_pruned : Binds K fd3 ["_law_nodes"] []) (T : Txt mg) :
    GFn P w K mg base CX0 3 f fd ["_law_deck_here", "_law_much"] (spTree K) := by
  have G__law_draw : GFn P w K mg base CX0 1 f1 fd1 ["_law_deck_here", "_law_much"] spDraw := ok_draw F__law_draw T
  have G__law_pruned : GFn P w K mg base CX0 2 f3 fd3 ["_law_nodes"] (spPruned K) := ok_pruned F__law_pruned F__law_met m__law_met b__law_met T
  refine gfun_ok F sc__law_any_tree (fun vs H Q E h => ?_) (fun cdv A outer s H vs Q E hgu hr h => ?_)
  · obtain ⟨d, l, c, m, rfl, _⟩ := h
    rfl
  · obtain ⟨d, l, c, m, rfl, Dk, hc, m1, m6, q⟩ := h
    have nd := sc__law_any_tree.nd
    refine ⟨_, (pss_cons (ps_par3 (i := 2) (j := 3) (l := 4) rfl nd rfl rfl rfl (by decide) (by decide) (by decide) rfl rfl rfl (pa_cons (pe_op op_add pe_int (pe_g G__law_draw hgu (hr.mono (by decide)) (by rfl) m__law_draw F__law_draw.kp b__law_draw .nil pass0 (pa_cons (pv 0) (pa_cons pe_int pa_nil)))) (pa_cons (pe_lst pa_nil) (pa_cons (pe_op op_add pe_int (pe_g G__law_draw hgu (hr.mono (by decide)) (by rfl) m__law_draw F__law_draw.kp b__law_draw .nil pass0 (pa_cons (pv 0) (pa_cons pe_int pa_nil)))) pa_nil))) (by rfl))
      (pss_cons (ps_set (i := 2) nd rfl (Or.inl rfl) (pe_ifExp (pt_cmpR op_eq (pe_g G__law_draw hgu (hr.mono (by decide)) (by rfl) m__law_draw F__law_draw.kp b__law_draw .nil pass0 (pa_cons (pv 0) (pa_cons pe_int pa_nil))) pe_int (nomark _)) (pe_op op_add pe_int (pe_g G__law_draw hgu (hr.mono (by decide)) (by rfl) m__law_draw F__law_draw.kp b__law_draw .nil pass0 (pa_cons (pv 0) (pa_cons pe_int pa_nil)))) (pv 2)))
      (pss_cons (ps_for PassesOwn.never rfl (pi_range1 rfl T.range (pa_cons (pv 2) pa_nil)) (pg_name (i := 5) nd rfl (Or.inl rfl))
        (pss_cons (ps_set (i := 6) nd rfl (Or.inl rfl) (pe_lst pa_nil))
      (pss_cons (ps_for PassesOwn.never rfl (pi_range1 rfl T.range (pa_cons pe_int pa_nil)) (pg_name (i := 7) nd rfl (Or.inl rfl))
        (pss_cons (ps_par (i := 8) (j := 9) rfl nd rfl rfl (by decide) rfl rfl (pa_cons (pe_op op_sub (pe_un un_neg pe_int) (pe_g G__law_draw hgu (hr.mono (by decide)) (by rfl) m__law_draw F__law_draw.kp b__law_draw .nil pass0 (pa_cons (pv 0) (pa_cons (pv 1) pa_nil)))) (pa_cons (pe_g G__law_draw hgu (hr.mono (by decide)) (by rfl) m__law_draw F__law_draw.kp b__law_draw .nil pass0 (pa_cons (pv 0) (pa_cons (pv 2) pa_nil))) pa_nil)) (by rfl))
      (pss_one (ps_expr (pe_bm PySem.F.plainAttrs_list PySem.F.slot_list_append PySem.F.type_list_append mt_append (pv 6) (pa_cons (pe_ifExp (pt_cmpR op_eq (pe_g G__law_draw hgu (hr.mono (by decide)) (by rfl) m__law_draw F__law_draw.kp b__law_draw .nil pass0 (pa_cons (pv 0) (pa_cons (pv 4) pa_nil))) pe_int (nomark _)) (pv 8) (pv 9)) pa_nil))))))
      (pss_one (ps_expr (pe_bm PySem.F.plainAttrs_list PySem.F.slot_list_append PySem.F.type_list_append mt_append (pv 3) (pa_cons (pe_callTy (k_tupOf (K := K)) (by rfl) T.tuple (by decide +kernel) (pa_cons (pv 6) pa_nil)) pa_nil)))))))
      (pss_one (ps_ret (pe_g G__law_pruned hgu (hr.mono (by decide)) (by rfl) m__law_pruned F__law_pruned.kp b__law_pruned .nil pass0 (pa_cons (pv 3) pa_nil))))))), ?_⟩
    refine ⟨_, rfl, d, l, c, 7, rfl, Dk, by omega, by decide, by decide, fun r H1 r0 r1 dk1 k1 => ⟨_, _, rfl, rfl, Nat.zero_le _, fun pn npn => ?_⟩⟩
    have dk2 := dk1.upd (o := .lst []) npn
    have pnd := dk1.ne npn
    have hn2 : upd H1 pn (.lst []) pn = some (.lst []) := upd_same
    have k2 : Kept d l H (upd H1 pn (.lst [])) := k1.trans (.of (same_new npn))
    have npn0 : H pn = none := Option.eq_none_iff_forall_ne_some.mpr fun o ho => by
      by_cases e1 : pn = d
      · exact pnd.1 e1
      · by_cases e2 : pn = l
        · exact pnd.2 e2
        · have := k1 _ _ ho e1 e2
          rw [npn] at this
          cases this
    generalize upd H1 pn (.lst []) = H2 at dk2 hn2 k2 ⊢
    refine ⟨_, rfl, d, l, c + 1, 2, rfl, dk2, by omega, by decide, by decide, fun r2 H3 r20 r21 dk3 k3 => ⟨_, _, rfl, rfl, _, _, _, rfl, ?_⟩⟩
    refine ⟨_, rfl, d, l, c + 1 + 1, 6, rfl, dk3, by omega, by decide, by decide, fun r3 H4 r30 r31 dk4 k4 => ⟨rfl, _, rfl, ?_⟩⟩
    have hn4 : H4 pn = some (.lst []) := k4 _ _ (k3 _ _ hn2 pnd.1 pnd.2) pnd.1 pnd.2
    have k04 := k2.trans (k3.trans k4)
    refine if_two (Pz := fun x H5 => ∃ n : Nat, x = .int (n : Nat) ∧ 1 ≤ n ∧ n ≤ 12 ∧ Dek H5 d l (c + 4) ∧ Kept d l H H5 ∧ H5 pn = some (.lst [])) ?_ (fun _ kk => ?_) (fun _ kk => ?_)
    · rintro x H5 ⟨n, rfl, n1, n12, dk5, k5, hn5⟩
      refine ⟨_, rfl, _, rfl, by omega, by omega, ?_⟩
      rw [show ((n : Int)).toNat = n from rfl]
      refine for_it walk_range (fun i σ HI => ∃ (xs : List V) (T2 : List (Int × Int)) (y5 y6 y7 y8 y9 : Option V), σ = [some (.ref d), some (.int m), some (.int (n : Nat)), some (.ref pn), some (.int (2 + r2)), y5, y6, y7, y8, y9] ∧ Dek HI d l (c + 4 + 6 * i) ∧ Kept d l H HI ∧ HI pn = some (.lst xs) ∧ NdAt K HI xs T2 ∧ T2.length = i ∧ (∀ q ∈ T2, OkS m n q.1 ∧ OkS m n q.2))
        ⟨[], [], _, _, _, _, _, rfl, dk5, k5, hn5, .nil, rfl, fun _ h => (nomatch h)⟩ (fun _ _ _ _ _ => trivial) ?_ ?_
      · rintro i x σ HI HJ hi ⟨xs, T2, y5, y6, y7, y8, y9, rfl, dk, k, hn, na, tl, ok⟩ ⟨rfl, rfl⟩
        refine ⟨Nat.zero_le _, fun ps nps => ?_⟩
        have dk6 := dk.upd (o := .lst []) nps
        have psd := dk.ne nps
        have pps : pn ≠ ps := ne_of_none hn nps
        have nps0 : H ps = none := Option.eq_none_iff_forall_ne_some.mpr fun o ho => by
          have := k _ _ ho psd.1 psd.2
          rw [nps] at this
          cases this
        have s6 : Same HJ (upd HJ ps (.lst [])) := same_new nps
        refine ⟨_, rfl, by decide, by decide, ?_⟩
        refine for_it walk_range (fun j σ HK => ∃ (ss : List Int) (y7 y8 y9 : Option V), σ = [some (.ref d), some (.int m), some (.int (n : Nat)), some (.ref pn), some (.int (2 + r2)), some (.int (0 + (i : Int))), some (.ref ps), y7, y8, y9] ∧ Dek HK d l (c + 4 + 6 * i + 3 * j) ∧ Kept d l H HK ∧ HK pn = some (.lst xs) ∧ NdAt K HK xs T2 ∧ HK ps = some (.lst (ss.map V.int)) ∧ ss.length = j ∧ ∀ s ∈ ss, OkS m n s)
          ⟨[], _, _, _, rfl, dk6, k.trans (.of s6), s6 _ _ hn, na.keep fun _ _ h => sameT s6 h, upd_same, rfl, fun _ h => (nomatch h)⟩ (fun _ _ _ _ _ => trivial) ?_ ?_
        · rintro j x σ HK HL hj ⟨ss, y7, y8, y9, rfl, dk7, k7, hn7, na7, hs7, sl, oks⟩ ⟨rfl, rfl⟩
          have hj : j < 2 := hj
          refine ⟨1, rfl, _, rfl, _, rfl, d, l, _, m, rfl, dk7, by omega, by omega, by omega, fun r4 H8 r40 r41 dk8 k8 => ⟨_, _, rfl, rfl, ?_⟩⟩
          refine ⟨_, rfl, _, rfl, d, l, _, (n : Nat), rfl, dk8, by omega, by omega, by omega, fun r5 H9 r50 r51 dk9 k9 => ⟨_, _, rfl, ?_⟩⟩
          have k79 := k8.trans k9
          have hs9 := k79 _ _ hs7 psd.1 psd.2
          refine ⟨_, rfl, .inl ⟨rfl, _, SqL.of hs9⟩, ?_⟩
          refine ⟨_, rfl, _, rfl, d, l, _, 2 + r2, rfl, dk9, by omega, by omega, by omega, fun r6 HA r60 r61 dkA kA => ⟨rfl, _, rfl, ?_⟩⟩
          have k7A := k79.trans kA
          have hsA := k7A _ _ hs7 psd.1 psd.2
          have hnA := k7A _ _ hn7 pnd.1 pnd.2
          have naA := na7.keep fun _ _ h => k7A.tupG dk7 h
          have step : ∀ s : Int, OkS m n s → ∀ zz : Option V, ∀ y8 y9 : Option V, ∃ (ss2 : List Int) (y7 y8' y9' : Option V), ([some (.ref d), some (.int m), some (.int (n : Nat)), some (.ref pn), some (.int (2 + r2)), some (.int (0 + (i : Int))), some (.ref ps), zz, y8, y9] : L2.St) = [some (.ref d), some (.int m), some (.int (n : Nat)), some (.ref pn), some (.int (2 + r2)), some (.int (0 + (i : Int))), some (.ref ps), y7, y8', y9'] ∧ Dek (upd HA ps (.lst (ss.map V.int ++ [.int s]))) d l (c + 4 + 6 * i + 3 * (j + 1)) ∧ Kept d l H (upd HA ps (.lst (ss.map V.int ++ [.int s]))) ∧ upd HA ps (.lst (ss.map V.int ++ [.int s])) pn = some (.lst xs) ∧ NdAt K (upd HA ps (.lst (ss.map V.int ++ [.int s]))) xs T2 ∧ upd HA ps (.lst (ss.map V.int ++ [.int s])) ps = some (.lst (ss2.map V.int)) ∧ ss2.length = j + 1 ∧ ∀ s ∈ ss2, OkS m n s := by
            intro s hs zz y8 y9
            refine ⟨ss ++ [s], zz, y8, y9, rfl, (Dek.updN dkA psd.1 psd.2).mono (by omega), kept_upd (k7.trans k7A) nps0, by rw [upd_ne pps]; exact hnA, naA.keep fun _ _ h => sqT_tups (tups_upd hsA) h, by rw [upd_same, List.map_append]; rfl, by rw [List.length_append, sl]; rfl, fun s2 h2 => ?_⟩
            rcases List.mem_append.mp h2 with h2 | h2
            · exact oks s2 h2
            · rw [List.mem_singleton.mp h2]
              exact hs
          refine ite2 (fun _ => ⟨_, rfl, ps, _, _, rfl, rfl, hsA, ?_, step _ ?_ _ _ _⟩) (fun _ => ⟨_, rfl, ps, _, _, rfl, rfl, hsA, ?_, step _ ?_ _ _ _⟩)
          · rw [List.length_map]
            exact small1000 (by omega)
          · unfold OkS
            omega
          · rw [List.length_map]
            exact small1000 (by omega)
          · unfold OkS
            omega
        · rintro σ HK ⟨ss, y7, y8, y9, rfl, dk7, k7, hn7, na7, hs7, sl, oks⟩
          have sl : ss.length = 2 := sl
          obtain ⟨a, b, rfl⟩ : ∃ a b, ss = [a, b] := by
            match ss, sl with
            | [a, b], _ => exact ⟨a, b, rfl⟩
          refine ⟨_, rfl, .inl ⟨rfl, _, SqL.of hn7⟩, _, rfl, ps, _, rfl, .inl ⟨SqL.of hs7, fun pt npt => ?_⟩⟩
          have s8 : Same HK (upd HK pt (.tup [.int a, .int b])) := same_new npt
          have h8 : upd HK pt (.tup [.int a, .int b]) pt = some (.tup [.int a, .int b]) := upd_same
          have dk8 := dk7.same s8
          have hn8 := s8 _ _ hn7
          have na8 := na7.keep fun _ _ h => sameT s8 h
          have k8 := k7.trans (.of s8)
          have goalH : upd HK pt (.tup ([a, b].map V.int)) = upd HK pt (.tup [.int a, .int b]) := rfl
          rw [goalH]
          generalize upd HK pt (.tup [.int a, .int b]) = H8 at h8 dk8 hn8 na8 k8 ⊢
          have lx := na8.len
          refine ⟨pn, xs, _, rfl, rfl, hn8, small1000 (by omega), ?_⟩
          have tu := tups_upd (o := .lst (xs ++ [.ref pt])) hn8
          refine ⟨xs ++ [.ref pt], T2 ++ [(a, b)], _, _, _, _, _, rfl, (dk8.updN pnd.1 pnd.2).mono (by omega), kept_upd k8 npn0, upd_same, (na8.keep fun _ _ h => sqT_tups tu h).snoc ⟨pt, rfl, .inl (.inl (tu _ _ h8 nofun))⟩, by rw [List.length_append, tl]; rfl, fun q2 hq => ?_⟩
          rcases List.mem_append.mp hq with hq | hq
          · exact ok q2 hq
          · rw [List.mem_singleton.mp hq]
            exact ⟨oks a List.mem_cons_self, oks b (List.mem_cons_of_mem _ List.mem_cons_self)⟩
      · rintro σ HI ⟨xs, T2, y5, y6, y7, y8, y9, rfl, dk, k, hn, na, tl, ok⟩
        refine ⟨_, rfl, pn, T2, xs, m, rfl, SqL.of hn, na, ⟨by omega, fun q2 hq => ?_⟩, by omega, by omega, fun q2 hq => ⟨(ok q2 hq).1.1, (ok q2 hq).2.1⟩, fun p ys T3 H9 s9 hp9 na9 tr9 le9 => ?_⟩
        · obtain ⟨o1, o2⟩ := ok q2 hq
          unfold OkS at o1 o2
          omega
        · exact q p ys T3 H9 hp9 na9 tr9 (by omega) ((dk.same s9).mono (by omega)) (k.trans (.of s9))
    · refine ⟨_, rfl, d, l, _, 5, rfl, dk4, by omega, by decide, by decide, fun r4 H5 r40 r41 dk5 k5 => ⟨_, _, rfl, rfl, kk _ _ ⟨(8 + r4).toNat, ?_, by omega, by omega, dk5, k04.trans k5, k5 _ _ hn4 pnd.1 pnd.2⟩⟩⟩
      show V.int (8 + r4) = V.int _
      rw [Int.toNat_of_nonneg (by omega)]
    · refine ⟨_, rfl, kk _ _ ⟨(1 + r).toNat, ?_, by omega, by omega, dk4.mono (by omega), k04, hn4⟩⟩
      show V.int (1 + r) = V.int _
      rw [Int.toNat_of_nonneg (by omega)]
end
end SG

namespace SG
open PySem PySem.Spec PyProof.Rows L2
section
variable {P : Program} {w : World} {K : PySem.W.Frag} {mg : Str → Option Value} {base : Heap}
theorem and_two {b : Bool} {c2 : TT} {σ : L2.St} {H : Hp} {R : Bool → Hp → Prop} {Pz : Bool → Hp → Prop} (key : ∀ b H5, Pz b H5 → R b H5) (h1 : b = true → (∀ b H5, Pz b H5 → R b H5) → c2 σ H R) (h2 : b = false → (∀ b H5, Pz b H5 → R b H5) → R false H) : if b = true then c2 σ H R else R false H := by
  cases b with
  | true => exact ifT rfl (h1 rfl key)
  | false => exact ifF rfl (h2 rfl key)
theorem ok_even {f f1 : Addr} {fd fd1 : FuncData} (F : Fun K "_law_even_tree" "_law_even_tree" s__law_even_tree f fd) (F__law_draw : Fun K "_law_draw" "_law_draw" s__law_draw f1 fd1) (m__law_draw : mg "_law_draw" = some (.ref f1)) (b__law_draw : Binds K fd1 ["_law_deck_here", "_law_much"] []) (T : Txt mg) :
    GFn P w K mg base CX0 2 f fd ["_law_deck_here", "_law_much"] (spTree K) := by
  have G__law_draw : GFn P w K mg base CX0 1 f1 fd1 ["_law_deck_here", "_law_much"] spDraw := ok_draw F__law_draw T
  refine gfun_ok F sc__law_even_tree (fun vs H Q E h => ?_) (fun cdv A outer s H vs Q E hgu hr h => ?_)
  · obtain ⟨d, l, c, m, rfl, _⟩ := h
    rfl
  · obtain ⟨d, l, c, m, rfl, Dk, hc, m1, m6, q⟩ := h
    have nd := sc__law_even_tree.nd
    refine ⟨_, (pss_cons (ps_set (i := 2) nd rfl (Or.inr rfl) pe_int)
      (pss_cons (ps_while PassesOwn.never (pt_cmpR op_lt (pv 2) (pv 1) (nomark _)) (pss_one (ps_set (i := 2) nd rfl (Or.inr rfl) (pe_op op_mul pe_int (pv 2)))))
      (pss_cons (ps_set (i := 2) nd rfl (Or.inr rfl) (pe_ifExp (PW.pt (pw_and (pt_cmpR op_lt (pv 2) pe_int (nomark _)) (pw_and1 (pt_cmpR op_eq (pe_g G__law_draw hgu (hr.mono (by decide)) (by rfl) m__law_draw F__law_draw.kp b__law_draw .nil pass0 (pa_cons (pv 0) (pa_cons pe_int pa_nil))) pe_int (nomark _))))) (pe_op op_mul pe_int (pv 2)) (pv 2)))
      (pss_cons (ps_asg (pe_tup (pa_cons (pe_g G__law_draw hgu (hr.mono (by decide)) (by rfl) m__law_draw F__law_draw.kp b__law_draw .nil pass0 (pa_cons (pv 0) (pa_cons (pv 1) pa_nil))) (pa_cons (pe_lst pa_nil) (pa_cons (pe_op op_mul (pe_op op_fdiv (pv 2) (pv 1)) (pv 1)) pa_nil)))) (k_tg (K := K) (n := 3) rfl (pgs_cons (pg_name (i := 3) nd rfl (Or.inr rfl)) (pgs_cons (pg_name (i := 4) nd rfl (Or.inl rfl)) (pgs_cons (pg_name (i := 5) nd rfl (Or.inr rfl)) pgs_nil)))))
      (pss_cons (ps_for PassesOwn.never rfl (pi_range1 rfl T.range (pa_cons (pe_op op_sub (pv 2) pe_int) pa_nil)) (pg_name (i := 6) nd rfl (Or.inl rfl))
        (pss_cons (ps_set (i := 7) nd rfl (Or.inl rfl) (pe_lst (pa_cons (pe_op op_add (pe_op op_mul pe_int (pv 6)) pe_int) (pa_cons (pe_op op_add (pe_op op_mul pe_int (pv 6)) pe_int) pa_nil))))
      (C8.pss_cut (ps_if (pt_cmpR op_ge (pe_ix (k_ixL (K := K)) (pv 7) pe_int (fun _ _ => rfl)) (pe_op op_sub (pv 2) pe_int) (nomark _)) (pss_cons (ps_setLc (i := 8) (own := [("_law_side", 11)]) rfl nd rfl rfl (sw_true rfl rfl rfl (by decide +kernel)) (pi_list (pv 7)) (blkOk_by (N := N__law_even_tree) (sc := defScope s__law_even_tree) (by decide +kernel)) (fun _ _ _ _ _ => (pg_name (i := 11) nd rfl (Or.inl rfl))) (fun _ _ _ _ _ => pts_nil) (fun _ _ _ _ _ => (pe_op op_sub (pv 11) (pe_op op_sub (pv 2) pe_int))))
      (pss_one (ps_setLc (i := 7) (own := [("_law_spot", 12)]) rfl nd rfl rfl (sw_true rfl rfl rfl (by decide +kernel)) (pi_list (pv 8)) (blkOk_by (N := N__law_even_tree) (sc := defScope s__law_even_tree) (by decide +kernel)) (fun _ _ _ _ _ => (pg_name (i := 12) nd rfl (Or.inl rfl))) (fun _ _ _ _ _ => pts_nil) (fun _ _ _ _ _ => (pe_ifExp (pt_cmpR op_lt (pv 12) (pv 5) (nomark _)) (pe_op op_sub (pe_un un_neg pe_int) (pe_op op_mod (pe_callTy call_int1 (by rfl) T.int (by decide +kernel) (pa_cons (pe_op op_add (pv 12) (pv 3)) pa_nil)) (pv 1))) pe_int))))) pss_nil)
      (pss_one (ps_expr (pe_bm PySem.F.plainAttrs_list PySem.F.slot_list_append PySem.F.type_list_append mt_append (pv 4) (pa_cons (pe_callTy (k_tupOf (K := K)) (by rfl) T.tuple (by decide +kernel) (pa_cons (pe_ifExp (pt_cmpR op_eq (pe_g G__law_draw hgu (hr.mono (by decide)) (by rfl) m__law_draw F__law_draw.kp b__law_draw .nil pass0 (pa_cons (pv 0) (pa_cons pe_int pa_nil))) pe_int (nomark _)) (pv 7) (k_rev (K := K) (pv 7))) pa_nil)) pa_nil)))))))
      (pss_cons (ps_for PassesOwn.never rfl (pi_range1 rfl T.range (pa_cons (pe_g G__law_draw hgu (hr.mono (by decide)) (by rfl) m__law_draw F__law_draw.kp b__law_draw .nil pass0 (pa_cons (pv 0) (pa_cons (pe_ifExp (pt_cmpR op_eq (pe_g G__law_draw hgu (hr.mono (by decide)) (by rfl) m__law_draw F__law_draw.kp b__law_draw .nil pass0 (pa_cons (pv 0) (pa_cons pe_int pa_nil))) pe_int (nomark _)) pe_int pe_int) pa_nil))) pa_nil)) (pg_name (i := 9) nd rfl (Or.inl rfl))
        (pss_cons (ps_set (i := 10) nd rfl (Or.inr rfl) (pe_g G__law_draw hgu (hr.mono (by decide)) (by rfl) m__law_draw F__law_draw.kp b__law_draw .nil pass0 (pa_cons (pv 0) (pa_cons pe_int pa_nil))))
      (pss_cons (ps_setLc (i := 4) (own := [("_law_node", 13)]) rfl nd rfl rfl (sw_true rfl rfl rfl (by decide +kernel)) (pi_list (pv 4)) (blkOk_by (N := N__law_even_tree) (sc := defScope s__law_even_tree) (by decide +kernel)) (fun _ _ _ _ _ => (pg_name (i := 13) nd rfl (Or.inl rfl))) (fun _ _ _ _ _ => pts_nil) (fun _ _ _ _ _ => (pe_callTy (k_tupOf (K := K)) (by rfl) T.tuple (by decide +kernel) (pa_cons (pe_lc (own := [("_law_it", 14)]) rfl nd (k_tupI (K := K) (pv 13)) (blkOk_by (by rfl)) (fun _ _ _ _ _ => (pg_name (i := 14) nd rfl (Or.inl rfl))) (fun _ _ _ _ _ => pts_nil) (fun _ _ _ _ _ => (pe_ifExp (pt_cmpR op_lt (pv 14) pe_int (nomark _)) (pv 14) (pe_ifExp (pt_cmpR op_eq (pv 14) pe_int (nomark _)) (pv 10) (pe_op op_add (pv 14) pe_int))))) pa_nil))))
      (pss_one (ps_set (i := 4) nd rfl (Or.inl rfl) (pe_op op_cat (pe_lst (pa_cons (pe_tup (pa_cons pe_int (pa_cons pe_int pa_nil))) pa_nil)) (pv 4)))))))
      (pss_one (ps_ret (pe_callTy (k_tupOf (K := K)) (by rfl) T.tuple (by decide +kernel) (pa_cons (pv 4) pa_nil)))))))))), ?_⟩
    refine ⟨fun k σ HI => ∃ wd : Nat, σ = [some (.ref d), some (.int m), some (.int (wd : Nat)), none, none, none, none, none, none, none, none, none, none, none, none] ∧ k = 8 - wd ∧ Dek HI d l c ∧ Kept d l H HI ∧ (wd = 2 ∨ wd = 4 ∨ wd = 8), ⟨_, 2, rfl, rfl, Dk, .refl _ _ _, .inl rfl⟩, ?_⟩
    rintro k σ H0 ⟨wd, rfl, rfl, dk0, k0, hw⟩
    refine ⟨_, rfl, _, rfl, _, _, rfl, rfl, _, rfl, ite2 (fun h => ?_) (fun h => ?_)⟩
    · have h := of_decide_eq_true h
      refine ⟨fun σ' H' => ∃ wd2 : Nat, σ' = [some (.ref d), some (.int m), some (.int (wd2 : Nat)), none, none, none, none, none, none, none, none, none, none, none, none] ∧ wd < wd2 ∧ Dek H' d l c ∧ Kept d l H H' ∧ (wd2 = 2 ∨ wd2 = 4 ∨ wd2 = 8), ?_, ?_⟩
      · rintro σ' H' ⟨wd2, rfl, lt, dk, k, hw2⟩
        exact ⟨8 - wd2, by omega, wd2, rfl, rfl, dk, k, hw2⟩
      · exact ⟨_, rfl, _, _, rfl, rfl, .inl ⟨by decide, by decide⟩, 2 * wd, by rw [show ((2 * wd : Nat) : Int) = 2 * (wd : Int) by omega]; rfl, by omega, dk0, k0, by omega⟩
    clear h
    refine ⟨_, rfl, _, _, rfl, rfl, _, rfl, and_two (Pz := fun b H5 => Dek H5 d l (c + 1) ∧ Kept d l H H5 ∧ (b = true → wd < 8)) ?_ (fun h kk => ?_) (fun _ kk => kk _ _ ⟨dk0.mono (by omega), k0, nofun⟩)⟩
    · rintro b H5 ⟨dk5, k5, hb⟩
      refine if_two (Pz := fun x H6 => ∃ w2 : Nat, x = .int (w2 : Nat) ∧ (w2 = 2 ∨ w2 = 4 ∨ w2 = 8) ∧ Dek H6 d l (c + 1) ∧ Kept d l H H6) ?_ (fun hbt kk => ?_) (fun _ kk => ?_)
      · clear hw hb dk5 k5 dk0 k0
        rintro x H6 ⟨w2, rfl, hw, dk5, k5⟩
        refine ⟨_, rfl, _, rfl, d, l, _, m, rfl, dk5, by omega, by omega, by omega, fun by_ H7 b0 b1 dk7 k7 => ⟨Nat.zero_le _, fun pn npn => ?_⟩⟩
        have k07 := k5.trans k7
        have pnd := Deck.ne dk7 npn
        have npn0 : H pn = none := Option.eq_none_iff_forall_ne_some.mpr fun o ho => by
          have := k07 _ _ ho pnd.1 pnd.2
          rw [npn] at this
          cases this
        have s8 : Same H7 (upd H7 pn (.lst [])) := same_new npn
        have hn8 : upd H7 pn (.lst []) pn = some (.lst []) := upd_same
        have dk8 := dk7.same s8
        have k8 := k07.trans (.of s8)
        generalize upd H7 pn (.lst []) = H8 at hn8 dk8 k8 ⊢
        refine ⟨_, rfl, _, rfl, _, _, rfl, rfl, ⟨by omega, by omega⟩, _, rfl, _, _, rfl, rfl, .inr ⟨by omega, by omega⟩, by show 3 ≤ sizeLine; decide, fun pt npt => ⟨pt, _, rfl, .inl (.inl upd_same), rfl, _, _, rfl, _, _, rfl, _, _, rfl, rfl, ?_⟩⟩
        dsimp only
        generalize (w2 : Int) / m * m = great
        have s9 := same_new (o := .tup [.int by_, .ref pn, .int great]) npt
        have hn9 := s9 _ _ hn8
        have dk9 := dk8.same s9
        have k9 := k8.trans (.of s9)
        generalize upd H8 pt (.tup [.int by_, .ref pn, .int great]) = H9 at hn9 dk9 k9 ⊢
        refine ⟨_, rfl, _, _, rfl, rfl, _, rfl, by omega, by omega, ?_⟩
        obtain ⟨n, hn⟩ : ∃ n : Nat, (n : Int) = (w2 : Int) - 1 := ⟨w2 - 1, by omega⟩
        rw [show ((w2 : Int) - 1).toNat = n by omega]
        refine for_it walk_range (fun i σ HI => ∃ (xs : List V) (T2 : List (Int × Int)) (y6 y7 y8 : Option V), σ = [some (.ref d), some (.int m), some (.int (w2 : Nat)), some (.int by_), some (.ref pn), some (.int great), y6, y7, y8, none, none, none, none, none, none] ∧ Dek HI d l (c + 2 + i) ∧ Kept d l H HI ∧ HI pn = some (.lst xs) ∧ NdAt K HI xs T2 ∧ T2.length = i ∧ (∀ q ∈ T2, OkS m n q.1 ∧ OkS m n q.2))
          ⟨[], [], _, _, _, rfl, dk9, k9, hn9, .nil, rfl, fun _ h => (nomatch h)⟩ (fun _ _ _ _ _ => trivial) ?_ ?_
        · rintro i x σ HI HJ hi ⟨xs, T2, y6, y7, y8, rfl, dk, k, hnI, na, tl, ok⟩ ⟨rfl, rfl⟩
          refine ⟨_, rfl, _, _, rfl, rfl, .inl ⟨by decide, by decide⟩, _, _, rfl, rfl, _, rfl, _, _, rfl, rfl, .inl ⟨by decide, by decide⟩, _, _, rfl, rfl, by show 2 ≤ sizeLine; decide, fun ps nps => ?_⟩
          have sA : Same HJ (upd HJ ps (.lst ([2 * (0 + (i : Int)) + 1, 2 * (0 + (i : Int)) + 2].map V.int))) := same_new nps
          have hsA : upd HJ ps (.lst ([2 * (0 + (i : Int)) + 1, 2 * (0 + (i : Int)) + 2].map V.int)) ps = some (.lst ([2 * (0 + (i : Int)) + 1, 2 * (0 + (i : Int)) + 2].map V.int)) := upd_same
          have eA : upd HJ ps (.lst [.int (2 * (0 + (i : Int)) + 1), .int (2 * (0 + (i : Int)) + 2)]) = upd HJ ps (.lst ([2 * (0 + (i : Int)) + 1, 2 * (0 + (i : Int)) + 2].map V.int)) := rfl
          rw [eA]
          generalize upd HJ ps (.lst ([2 * (0 + (i : Int)) + 1, 2 * (0 + (i : Int)) + 2].map V.int)) = HA at sA hsA ⊢
          refine ⟨fun σ3 H3 => ∃ (p7 : Addr) (a b : Int) (y8 : Option V), σ3 = [some (.ref d), some (.int m), some (.int (w2 : Nat)), some (.int by_), some (.ref pn), some (.int great), some (.int (0 + (i : Int))), some (.ref p7), y8, none, none, none, none, none, none] ∧ H3 p7 = some (.lst ([a, b].map V.int)) ∧ Same HJ H3 ∧ OkS m n a ∧ OkS m n b ∧ p7 ≠ d ∧ p7 ≠ l, ?_, ?_⟩
          · refine ⟨_, rfl, ps, _, ((0 : Nat) : Int), .int (2 * (0 + (i : Int)) + 1), rfl, rfl, SqL.of hsA, atI_nat rfl, _, rfl, _, _, rfl, rfl, _, _, rfl, rfl, _, rfl, ite2 (fun h => ?_) (fun h => ?_)⟩
            · refine ⟨_, rfl, ps, rfl, ⟨_, SqL.of hsA⟩, fun D1 nD1 => ?_⟩
              refine lc_nums (ns := [2 * (0 + (i : Int)) + 1, 2 * (0 + (i : Int)) + 2]) (walk_list (K := K) (a := ps)) (by show 2 ≤ 1000; decide) nD1 (fun s => s - ((w2 : Int) - 1)) (fun H7 s7 => s7.seq (SqL.of hsA)) (fun s H7 hs s7 R hR => ⟨_, rfl, _, rfl, _, _, rfl, rfl, _, _, rfl, rfl, hR _ (Same.refl _)⟩) (fun HB sB hDB => ?_)
              refine ⟨_, rfl, D1, rfl, ⟨_, SqL.of hDB⟩, fun D2 nD2 => ?_⟩
              refine lc_nums (ns := [2 * (0 + (i : Int)) + 1, 2 * (0 + (i : Int)) + 2].map fun s => s - ((w2 : Int) - 1)) (walk_list (K := K) (a := D1)) (by show 2 ≤ 1000; decide) nD2 (fun s => if s < great then -1 - (s + by_) % m else 0) (fun H7 s7 => s7.seq (SqL.of hDB)) (fun s H7 hs s7 R hR => ?_) (fun HC sC hDC => ?_)
              · have z := hR H7 (Same.refl _)
                refine ⟨_, rfl, _, rfl, _, _, rfl, rfl, _, rfl, ite2 (fun h2 => ?_) (fun h2 => ?_)⟩
                · rw [if_pos (of_decide_eq_true h2)] at z
                  exact ⟨1, rfl, _, rfl, _, rfl, _, _, rfl, rfl, .inl ⟨_, rfl, _, rfl, _, _, rfl, rfl, by omega, _, _, rfl, rfl, z⟩⟩
                · rw [if_neg (fun c => h2 (decide_eq_true c))] at z
                  exact z
              · have fin : ∀ s : Int, OkS m n (if s < great then -1 - (s + by_) % m else 0) := fun s => by
                  unfold OkS
                  have w0 := mod_lo (a := s + by_) (b := m) (by omega)
                  have w1 := mod_hi (a := s + by_) (b := m) (by omega)
                  generalize (s + by_) % m = g at w0 w1 ⊢
                  split <;> omega
                exact ⟨D2, _, _, _, rfl, hDC, (sA.trans sB).trans sC, fin _, fin _, (Deck.ne (Dek.same dk (sA.trans sB)) nD2).1, (Deck.ne (Dek.same dk (sA.trans sB)) nD2).2⟩
            · have h2 : ¬ ((w2 : Int) - 1 ≤ 2 * (0 + (i : Int)) + 1) := fun z => h (decide_eq_true z)
              refine ⟨ps, _, _, _, rfl, hsA, sA, ?_, ?_, (Deck.ne dk nps).1, (Deck.ne dk nps).2⟩
              · unfold OkS
                omega
              · unfold OkS
                omega
          · rintro σ3 HB ⟨p7, a, b, y8, rfl, hsB, sB, oa, ob, p7d⟩
            have dkB := dk.same sB
            have hnB := sB _ _ hnI
            have naB := na.keep fun _ _ h => sameT sB h
            have kB := k.trans (.of sB)
            refine ⟨_, rfl, .inl ⟨rfl, _, SqL.of hnB⟩, _, rfl, d, l, _, 2, rfl, dkB, by omega, by decide, by decide, fun r HC r0 r1 dkC kC => ⟨rfl, _, rfl, ?_⟩⟩
            have hsC := kC _ _ hsB p7d.1 p7d.2
            have hnC := kC _ _ hnB pnd.1 pnd.2
            have naC := naB.keep fun _ _ h => kC.tupG dkB h
            have k0C := kB.trans kC
            refine if_two (Pz := fun x H6 => ∃ (p : Addr) (a b : Int), x = .ref p ∧ H6 p = some (.lst ([a, b].map V.int)) ∧ OkS m n a ∧ OkS m n b ∧ Same HC H6) ?_ (fun _ kk => ⟨_, rfl, kk _ _ ⟨p7, a, b, rfl, hsC, oa, ob, Same.refl _⟩⟩) (fun _ kk => ⟨_, rfl, p7, _, rfl, SqL.of hsC, fun p np => kk _ _ ⟨p, b, a, rfl, upd_same, ob, oa, same_new np⟩⟩)
            rintro x HD ⟨p8, a2, b2, rfl, hsD, oa2, ob2, sD⟩
            refine ⟨p8, _, rfl, .inl ⟨SqL.of hsD, fun pt npt => ?_⟩⟩
            have sE := sD.trans (same_new (o := .tup ([a2, b2].map V.int)) npt)
            have hE : upd HD pt (.tup ([a2, b2].map V.int)) pt = some (.tup ([a2, b2].map V.int)) := upd_same
            generalize upd HD pt (.tup ([a2, b2].map V.int)) = HE at sE hE ⊢
            have hnE := sE _ _ hnC
            have naE := naC.keep fun _ _ h => sameT sE h
            have lx := naE.len
            refine ⟨pn, xs, _, rfl, rfl, hnE, small1000 (by omega), ?_⟩
            have tu := tups_upd (o := .lst (xs ++ [.ref pt])) hnE
            refine ⟨xs ++ [.ref pt], T2 ++ [(a2, b2)], _, _, _, rfl, (Dek.updN (Dek.same dkC sE) pnd.1 pnd.2).mono (by omega), kept_upd (k0C.trans (.of sE)) npn0, upd_same, (naE.keep fun _ _ h => sqT_tups tu h).snoc ⟨pt, rfl, .inl (.inl (tu _ _ hE nofun))⟩, by rw [List.length_append, tl]; rfl, fun q2 hq => ?_⟩
            rcases List.mem_append.mp hq with hq | hq
            · exact ok q2 hq
            · rw [List.mem_singleton.mp hq]
              exact ⟨oa2, ob2⟩
        · rintro σ HI ⟨xs, T2, y6, y7, y8, rfl, dk, k, hnI, na, tl, ok⟩
          have tr0 : TreeT m T2 := ⟨by omega, fun q2 hq => by rw [tl]; exact ok q2 hq⟩
          refine ⟨_, rfl, _, rfl, d, l, _, 6, rfl, dk, by omega, by decide, by decide, fun r HA r0 r1 dkA kA => ⟨rfl, _, rfl, ?_⟩⟩
          have hnA := kA _ _ hnI pnd.1 pnd.2
          have naA := na.keep fun _ _ h => kA.tupG dk h
          have k0A := k.trans kA
          refine if_two (Pz := fun x H6 => ∃ z : Int, x = .int z ∧ 3 ≤ z ∧ z ≤ 6 ∧ Same HA H6) ?_ (fun _ kk => kk _ _ ⟨6, rfl, by decide, by decide, Same.refl _⟩) (fun _ kk => kk _ _ ⟨3, rfl, by decide, by decide, Same.refl _⟩)
          rintro x HB ⟨z, rfl, z3, z6, sB⟩
          have dkB := Dek.same dkA sB
          refine ⟨d, l, _, z, rfl, dkB, by omega, by omega, by omega, fun r2 HC r20 r21 dkC kC => ⟨_, rfl, by omega, by omega, ?_⟩⟩
          have hnC := kC _ _ (sB _ _ hnA) pnd.1 pnd.2
          have naC := (naA.keep fun _ _ h => sameT sB h).keep fun _ _ h => kC.tupG dkB h
          have k0C := (k0A.trans (.of sB)).trans kC
          have r3 : r2.toNat ≤ 5 := by omega
          generalize r2.toNat = times at r3
          refine for_it walk_range (fun i σ HI => ∃ (p4 : Addr) (xs : List V) (T2 : List (Int × Int)) (y9 y10 : Option V), σ = [some (.ref d), some (.int m), some (.int (w2 : Nat)), some (.int by_), some (.ref p4), some (.int great), y6, y7, y8, y9, y10, none, none, none, none] ∧ Dek HI d l (c + 20 + i) ∧ Kept d l H HI ∧ HI p4 = some (.lst xs) ∧ NdAt K HI xs T2 ∧ TreeT m T2 ∧ T2.length = n + i ∧ p4 ≠ d ∧ p4 ≠ l)
            ⟨pn, xs, T2, _, _, rfl, Dek.mono dkC (by omega), k0C, hnC, naC, tr0, tl, pnd.1, pnd.2⟩ (fun _ _ _ _ _ => trivial) ?_ ?_
          · clear hnC naC k0C dkC hnA naA k0A dk k hnI na tl ok tr0
            rintro i x σ HI HJ hi ⟨p4, xs, T2, y9, y10, rfl, dk, k, hnI, na, tr, tl, p4d, p4l⟩ ⟨rfl, rfl⟩
            refine ⟨_, rfl, d, l, _, 2, rfl, dk, by omega, by decide, by decide, fun back HA b0 b1 dkA kA => ?_⟩
            have hnA := kA _ _ hnI p4d p4l
            have naA := na.keep fun _ _ h => kA.tupG dk h
            have k0A := k.trans kA
            have lx := naA.len
            refine ⟨_, rfl, p4, rfl, ⟨_, SqL.of hnA⟩, fun D1 nD1 => ?_⟩
            refine lc_same (walk_list (K := K) (a := p4) (xs := xs)) (by omega) nD1 (fun i acc H3 => NdAt K H3 acc ((T2.take i).map (upP back))) .nil (fun _ _ _ _ k h => h.keep fun _ _ h => sqT_tups k h) (fun H5 s5 => s5.seq (SqL.of hnA)) ?_ ?_
            · rintro j x acc H5 H6 hj s5 jn ⟨rfl, hx⟩ R N hR hN
              have hjT : j < T2.length := by omega
              obtain ⟨x', a', e1, rfl, e3⟩ := (naA.keep fun _ _ h => sameT s5 h).at (List.getElem?_eq_getElem hjT)
              rw [e1] at hx
              cases hx
              refine ⟨wipe1 _ _ _, ?_⟩
              refine yesI (A := fun H7 => _) ?_
              refine ⟨_, rfl, a', rfl, ⟨_, e3⟩, fun D2 nD2 => ?_⟩
              refine lc_nums (ns := [T2[j].1, T2[j].2]) (walk_tup (K := K) (a := a')) (by show 2 ≤ 1000; decide) nD2 (upI back) (fun H7 s7 => sameT s7 e3) (fun sd H7 hsd s7 R2 hR2 => ?_) (fun H7 s7 hD7 => ?_)
              · have z := hR2 H7 (Same.refl _)
                unfold upI at z
                refine ⟨_, rfl, _, _, rfl, rfl, _, rfl, ite2 (fun h2 => ?_) (fun h2 => ?_)⟩
                · rw [if_pos (of_decide_eq_true h2)] at z
                  exact ⟨_, rfl, z⟩
                · rw [if_neg (fun c => h2 (decide_eq_true c))] at z
                  refine ⟨_, rfl, rfl, _, rfl, ite2 (fun h3 => ?_) (fun h3 => ?_)⟩
                  · rw [dec_int, beq_iff_eq] at h3
                    rw [if_pos h3] at z
                    exact ⟨_, rfl, z⟩
                  · rw [dec_int, beq_iff_eq] at h3
                    rw [if_neg h3] at z
                    exact ⟨_, rfl, _, _, rfl, rfl, z⟩
              · refine ⟨D2, _, rfl, .inl ⟨SqL.of hD7, fun p np => hR _ _ (s7.trans (same_new np)) ?_⟩⟩
                have e : (T2.take (j + 1)).map (upP back) = (T2.take j).map (upP back) ++ [upP back T2[j]] := by
                  rw [List.take_add_one, List.getElem?_eq_getElem hjT, List.map_append]
                  rfl
                rw [e]
                exact (jn.keep fun _ _ h => sameT (s7.trans (same_new np)) h).snoc ⟨p, rfl, pair_map (g := upI back) upd_same⟩
            · intro acc HB sB hl hD1 jn
              rw [lx, List.take_of_length_le (Nat.le_refl _)] at jn
              refine ⟨by show 2 ≤ sizeLine; decide, fun pt npt => ⟨by show 1 ≤ sizeLine; decide, fun pl npl => ?_⟩⟩
              have s2 := (same_new (o := .tup [.int 1, .int 1]) npt).trans (same_new (o := .lst [.ref pt]) npl)
              have ht2 : upd (upd HB pt (.tup [.int 1, .int 1])) pl (.lst [.ref pt]) pt = some (.tup [.int 1, .int 1]) := same_new npl _ _ upd_same
              have hl2 : upd (upd HB pt (.tup [.int 1, .int 1])) pl (.lst [.ref pt]) pl = some (.lst [.ref pt]) := upd_same
              have hD2 := s2 _ _ hD1
              have jn2 := jn.keep fun _ _ h => sameT s2 h
              have sB2 := sB.trans s2
              generalize upd (upd HB pt (.tup [.int 1, .int 1])) pl (.lst [.ref pt]) = HC at ht2 hl2 hD2 jn2 sB2 ⊢
              refine ⟨_, rfl, pl, D1, _, _, rfl, rfl, hl2, hD2, Nat.le_of_lt (small1000 (by show 1 + acc.length ≤ 1000; omega)), fun p2 np2 => ?_⟩
              have s3 : Same HC (upd HC p2 (.lst ([.ref pt] ++ acc))) := same_new np2
              have dkZ := Dek.same dkA (sB2.trans s3)
              have na3 : NdAt K (upd HC p2 (.lst ([.ref pt] ++ acc))) (V.ref pt :: acc) ((1, 1) :: T2.map (upP back)) := Paired.cons (by exact ⟨pt, rfl, .inl (.inl (s3 _ _ ht2))⟩) (jn2.keep fun _ _ h => sameT s3 h)
              refine ⟨p2, [.ref pt] ++ acc, (1, 1) :: T2.map (upP back), _, _, rfl, Dek.mono dkZ (by omega), k0A.trans (.of (sB2.trans s3)), upd_same, na3, wrap_tree tr (by omega) (by omega) (by omega), by rw [List.length_cons, List.length_map, tl]; omega, (Deck.ne (Dek.same dkA sB2) np2).1, (Deck.ne (Dek.same dkA sB2) np2).2⟩
          · rintro σ HI ⟨p4, xs, T2, y9, y10, rfl, dk, k, hnI, na, tr, tl, p4d, p4l⟩
            refine ⟨_, rfl, p4, xs, rfl, .inl ⟨SqL.of hnI, fun p np => ?_⟩⟩
            have s1 : Same HI (upd HI p (.tup xs)) := same_new np
            exact q p xs T2 _ (.inl (.inl upd_same)) (na.keep fun _ _ h => sameT s1 h) tr (by omega) ((Dek.same dk s1).mono (by omega)) (k.trans (.of s1))
      · exact ⟨_, rfl, _, _, rfl, rfl, .inl ⟨by decide, by decide⟩, kk _ _ ⟨2 * wd, by show V.int (2 * (wd : Int)) = _; rw [show ((2 * wd : Nat) : Int) = 2 * (wd : Int) by omega], by have := hb hbt; omega, dk5, k5⟩⟩
      · exact ⟨_, rfl, kk _ _ ⟨wd, rfl, hw, dk5, k5⟩⟩
    · have h := of_decide_eq_true h
      exact ⟨_, rfl, d, l, _, 2, rfl, dk0, by omega, by decide, by decide, fun r H1 r0 r1 dk1 k1 => ⟨rfl, _, rfl, kk _ _ ⟨dk1, k0.trans k1, fun _ => by omega⟩⟩⟩
end
end SG

/-! Any data compared with an empty tuple. -/
namespace PySem.SeqAt
open PySem PySem.Spec
theorem tuple_eq_declines_dict (l b : Addr) (items : Array Value) (es : Array DictEntry) (n n2 : Nat) (dd dd2 : Option Addr) (sl sl2 : Array (Option Value)) :
    Meets (Builtin.«tuple.__eq__» ⟨[.ref l, .ref b], []⟩) (fun _ R s => s.heap.get? l = some { cls := .type "tuple", dict := dd, data := .seq items n, slots := sl } ∧ s.heap.get? b = some { cls := .type "dict", dict := dd2, data := .dict es n2, slots := sl2 } ∧ R (.ok (.ret .notImplemented)) s) :=
  .of_wp fun prog w A R s h => by obtain ⟨hp, g, d, tk, os⟩ := s; obtain ⟨hl, hb, h⟩ := h; have f1 := F.sub_dict_tuple; wp_walk using wpAny_loadPart' hl, wpAny_loadPart' hb; exact ⟨_, rfl, h⟩
theorem dict_eq_declines_tuple (l b : Addr) (items : Array Value) (es : Array DictEntry) (n n2 : Nat) (dd dd2 : Option Addr) (sl sl2 : Array (Option Value)) :
    Meets (Builtin.«dict.__eq__» ⟨[.ref b, .ref l], []⟩) (fun _ R s => s.heap.get? l = some { cls := .type "tuple", dict := dd, data := .seq items n, slots := sl } ∧ s.heap.get? b = some { cls := .type "dict", dict := dd2, data := .dict es n2, slots := sl2 } ∧ R (.ok (.ret .notImplemented)) s) :=
  .of_wp fun prog w A R s h => by
    obtain ⟨hl, hb, h⟩ := h
    show wpAny _ _ (Builtin.Dict.dictSlotArgs "__eq__" ⟨[.ref b, .ref l], []⟩ >>= _) _ _ s
    refine wpAny_bind ?_
    unfold Builtin.Dict.dictSlotArgs
    refine wpAny_bind (wpAny_notOrdered_dict ⟨_, hb, rfl⟩ ?_)
    show wpAny _ _ (pure (Value.ref b, Value.ref l)) _ _ s
    refine wpAny_pure ?_
    refine wpAny_bind (wpAny_isInstance (T := "tuple") ⟨_, hl, rfl⟩ F.sub_tuple_dict ?_)
    simp only [Bool.not_false, if_true]
    refine wpAny_bind (wpAny_rule ?_)
    exact wpAny_pure ⟨_, rfl, h⟩
section
variable {A : Around} {s : Shared}
theorem RcAt.dict_tuple {b l : Addr} {items : Array Value} {o : Obj} {n2 : Nat} {es : Array DictEntry} (ho : s.heap.get? b = some o) (hc : o.cls = .type "dict") (hd : o.data = .dict es n2) (hb : s.heap.IsTuple l items) (hu : A.units < cLine) : RcAt A s (.ref b) (.ref l) false := fun prog w E Q h => by
  obtain ⟨cls, dd, data, sl⟩ := o
  obtain ⟨⟨cls2, dd2, data2, sl2⟩, ho2, hc2, n, hd2⟩ := id hb
  simp only at hc hd hc2 hd2
  subst hc hd hc2 hd2
  have hne : b ≠ l := fun e => by
    subst e
    rw [ho] at ho2
    have z := congrArg Obj.cls (Option.some.inj ho2)
    simp at z
  exact (rc_eq_decline_or (k := false) ⟨_, ho, rfl⟩ ⟨_, ho2, rfl⟩ (by decide) F.sub_tuple_dict F.slot_dict_eq F.slot_tuple_eq_refl
    (fun _ hq => call_meets F.slot_dict_eq ⟨_, ho, rfl⟩ F.entry_dict_eq (F.args_dict_eq_2 _ _) (dict_eq_declines_tuple l b items es n n2 dd2 dd sl2 sl) ⟨ho2, ho, hq⟩)
    (fun _ hq => call_meets F.slot_tuple_eq_refl ⟨_, ho2, rfl⟩ F.entry_tuple_eq (F.args_tuple_eq_2 _ _) (tuple_eq_declines_dict l b items es n n2 dd2 dd sl2 sl) ⟨ho2, ho, hq⟩)
    (fun _ hq => wpAny_isSame_ref_other hne ho ho2 (by simp) hq) (.inr hu) h)
end
end PySem.SeqAt
namespace SG
open PySem PySem.Spec PyProof.Rows L2
def isUnit : PyData → Bool
  | .tuple [] => true
  | _ => false
/-- any data, and an empty tuple -/
def rEqU (K : PySem.W.Frag) : R2 := fun x y H Q => ∃ D b, y = .ref b ∧ Dx K H x D ∧ SqT K H b [] ∧ Q (.bl (isUnit D)) H
section
variable {X : Cx}
theorem op_eqU (hu : X.A.units < cLine) : OpR X (compareOp .Eq) (rEqU X.K) := by
  intro pins s σ H x y v u Q I rx ry h
  obtain ⟨D, b, rfl, hd, hb, q⟩ := h
  cases ry
  obtain ⟨is2, r2, p2, _⟩ := I.tuple hb
  obtain rfl := vals_nil r2
  cases hd with
  | non =>
    obtain rfl : v = Value.none := rx
    exact SeqAt.RcAt.none_tuple p2 hu X.prog X.w X.xe _ ⟨.bl false, H, I, rfl, q⟩
  | bl k =>
    obtain rfl : v = Value.bool k := rx
    exact SeqAt.RcAt.bool_tuple k p2 hu X.prog X.w X.xe _ ⟨.bl false, H, I, rfl, q⟩
  | int i =>
    obtain ⟨t, rfl⟩ := rx
    exact SeqAt.RcAt.int_tuple i t p2 hu X.prog X.w X.xe _ ⟨.bl false, H, I, rfl, q⟩
  | str z =>
    obtain ⟨t, rfl⟩ := rx
    exact SeqAt.RcAt.str_tuple z t p2 hu X.prog X.w X.xe _ ⟨.bl false, H, I, rfl, q⟩
  | lst hs ha =>
    rename_i p xs ds
    obtain rfl : v = Value.ref p := rx
    obtain ⟨its, rv, p1, _⟩ := I.list hs
    exact SeqAt.RcAt.list_tuple p1.isList p2 hu X.prog X.w X.xe _ ⟨.bl false, H, I, rfl, q⟩
  | tup hs ha =>
    rename_i p xs ds
    obtain rfl : v = Value.ref p := rx
    obtain ⟨is1, r1, p1, _⟩ := I.tuple hs
    have e := size_of_vals r1
    have el := dxA_len ha
    refine SeqAt.eq_tupleAt p1 p2 hu (e := fun _ => true) (fun j _ h2 => absurd h2 (by simp)) ⟨.bl (isUnit (.tuple ds)), H, I, ?_, q⟩
    show Value.bool _ = Value.bool _
    congr 1
    rw [e, el]
    cases ds <;> simp [isUnit]
  | dct hp =>
    rename_i p
    obtain rfl : v = Value.ref p := rx
    obtain ⟨_, o, n, h1, h2, h3⟩ := dct_at I hp
    exact SeqAt.RcAt.dict_tuple h1 h2 h3 p2 hu X.prog X.w X.xe _ ⟨.bl false, H, I, rfl, q⟩
theorem k_eqU {K : PySem.W.Frag} (hu : X.A.units + 64 < cLine) (e : X.K = K := by rfl) : OpR X (compareOp .Eq) (rEqU K) := e ▸ op_eqU (by omega)
end
end SG

namespace SG
open PySem PySem.Spec PyProof.Rows L2
def sideOk (m : Int) (n : Nat) : PyData → Bool
  | .int i => decide (-m ≤ i) && decide (i < n)
  | _ => false
def nodeOk (m : Int) (n : Nat) : PyData → Bool
  | .tuple ds => decide (ds.length = 2) && ds.all (sideOk m n)
  | _ => false
def pairOf : PyData → Int × Int
  | .tuple [.int a, .int b] => (a, b)
  | _ => (0, 0)
def TreeP (m : Int) : PyData → Prop
  | .tuple ds => if ds.length = 0 then m = 1 else ds.all (nodeOk m ds.length) = true ∧ ∀ o, Met (ds.map pairOf) o → o.length = ds.length
  | _ => False
theorem tree_tup {m : Int} {ds : List PyData} (h : ds.length ≠ 0) : TreeP m (.tuple ds) ↔ (ds.all (nodeOk m ds.length) = true ∧ ∀ o, Met (ds.map pairOf) o → o.length = ds.length) := by
  show (if ds.length = 0 then _ else _) ↔ _
  rw [if_neg h]
open Classical in
/-- whether it is a tree among m things -/
noncomputable def isTreeD (m : Int) (D : PyData) : Bool := decide (TreeP m D)
open Classical in
theorem tree_no {m : Int} {D : PyData} (h : ¬ TreeP m D) : isTreeD m D = false := by
  unfold isTreeD
  exact decide_eq_false h
open Classical in
theorem tree_is {m : Int} {D : PyData} {b : Bool} (h : TreeP m D ↔ b = true) : isTreeD m D = b := by
  unfold isTreeD
  rw [Bool.eq_iff_iff, decide_eq_true_eq]
  exact h
theorem node_pair {m : Int} {n : Nat} {D : PyData} (h : nodeOk m n D = true) : ∃ a b, D = .tuple [.int a, .int b] ∧ pairOf D = (a, b) ∧ OkS m n a ∧ OkS m n b := by
  cases D with
  | tuple ds =>
    simp only [nodeOk, Bool.and_eq_true, decide_eq_true_eq] at h
    obtain ⟨h1, h2⟩ := h
    match ds, h1 with
    | [x, y], _ =>
      simp only [List.all_cons, List.all_nil, Bool.and_true, Bool.and_eq_true] at h2
      obtain ⟨hx, hy⟩ := h2
      cases x with
      | int a =>
        cases y with
        | int b =>
          simp only [sideOk, Bool.and_eq_true, decide_eq_true_eq] at hx hy
          exact ⟨a, b, rfl, rfl, hx, hy⟩
        | _ => cases hy
      | _ => cases hx
  | _ => cases h
theorem nodes_good {m : Int} {ds : List PyData} (h : ds.all (nodeOk m ds.length) = true) (h0 : ds.length ≠ 0) : TreeT m (ds.map pairOf) := by
  refine ⟨by rw [List.length_map]; omega, fun q hq => ?_⟩
  obtain ⟨d, hd, rfl⟩ := List.mem_map.mp hq
  obtain ⟨a, b, _, e, oa, ob⟩ := node_pair (List.all_eq_true.mp h d hd)
  rw [e, List.length_map]
  exact ⟨oa, ob⟩
section
variable {K : PySem.W.Frag}
theorem nodes_at {H : Hp} {m : Int} {n : Nat} : ∀ {xs : List V} {ds : List PyData}, DxAll K H xs ds → ds.all (nodeOk m n) = true → NdAt K H xs (ds.map pairOf)
  | _, _, .nil, _ => .nil
  | _, _, .cons a r, h => by
    rw [List.all_cons, Bool.and_eq_true] at h
    have h2 := h
    obtain ⟨x, y, rfl, e, _, _⟩ := node_pair h2.1
    refine .cons ?_ (nodes_at r h2.2)
    cases a with
    | tup q aa =>
      cases aa with
      | cons a1 r1 =>
        cases a1
        cases r1 with
        | cons a2 r2 =>
          cases a2
          cases r2
          exact ⟨_, rfl, q⟩
end
end SG

namespace SG
open PySem PySem.Spec PyProof.Rows L2
section
variable {P : Program} {w : World} {K : PySem.W.Frag} {mg : Str → Option Value} {base : Heap}
def spIsTree (K : PySem.W.Frag) : Sp := fun vs H Q _ => ∃ (m : Int) (x : V) (D : PyData), vs = [.int m, x] ∧ Dx K H x D ∧ 0 ≤ m ∧ D.bulk ≤ 800 ∧ ∀ H2, Same H H2 → Q (.bl (isTreeD m D)) H2
theorem ok_isTreeL {f f1 : Addr} {fd fd1 : FuncData} (F : Fun K "_law_is_tree" "_law_is_tree" s__law_is_tree f fd) (F__law_met : Fun K "_law_met" "_law_met" s__law_met f1 fd1) (m__law_met : mg "_law_met" = some (.ref f1)) (b__law_met : Binds K fd1 ["_law_nodes"] []) (T : Txt mg) : GFn P w K mg base CX0 2 f fd ["_law_much", "_law_it"] (spIsTree K) := by
  have G__law_met : GFn P w K mg base CX0 1 f1 fd1 ["_law_nodes"] (spMet K) := ok_met F__law_met T
  refine gfun_ok F sc__law_is_tree (fun vs H Q E h => ?_) (fun cdv A outer s H vs Q E hgu hr h => ?_)
  · obtain ⟨m, x, D, rfl, _⟩ := h
    rfl
  · obtain ⟨m, x, D, rfl, hd, m0, bd, q⟩ := h
    have nd := sc__law_is_tree.nd
    refine ⟨_, (pss_cons (ps_if (PW.pt (pw_and (pt_cmpR (k_eqU (K := K) hr.units) (pv 1) (pe_tup pa_nil) (nomark _)) (pw_and1 (pt_val (pe_callB (k_isi (K := K)) (by rfl) T.isinstance (by decide +kernel) (pa_cons (pv 1) (pa_cons (pe_bltn (v := .ty "tuple") (by rfl) T.tuple (by decide +kernel) rfl) pa_nil))))))) (pss_one (ps_ret (pe_cmpR op_eq (pv 0) pe_int (nomark _)))) pss_nil)
      (pss_cons (ps_if (pt_not (pt_val (pe_callB (k_isi (K := K)) (by rfl) T.isinstance (by decide +kernel) (pa_cons (pv 1) (pa_cons (pe_bltn (v := .ty "tuple") (by rfl) T.tuple (by decide +kernel) rfl) pa_nil))))) (pss_one (ps_ret pe_bl)) pss_nil)
      (pss_cons (ps_for PassesOwn.never rfl (pi_tup (pv 1)) (pg_name (i := 2) nd rfl (Or.inl rfl))
        (pss_cons (ps_if (PW.pt (pw_or (pt_not (pt_val (pe_callB (k_isi (K := K)) (by rfl) T.isinstance (by decide +kernel) (pa_cons (pv 2) (pa_cons (pe_bltn (v := .ty "tuple") (by rfl) T.tuple (by decide +kernel) rfl) pa_nil))))) (pw_or1 (pt_cmpR op_ne (pe_callB (k_len (K := K)) (by rfl) T.len (by decide +kernel) (pa_cons (pv 2) pa_nil)) pe_int (nomark _))))) (pss_one (ps_ret pe_bl)) pss_nil)
      (pss_one (ps_for PassesOwn.never rfl (pi_tup (pv 2)) (pg_name (i := 3) nd rfl (Or.inl rfl))
        (pss_one (ps_if (PW.pt (pw_or (pt_not (pt_val (pe_callB (k_isi (K := K)) (by rfl) T.isinstance (by decide +kernel) (pa_cons (pv 3) (pa_cons (pe_bltn (v := .ty "int") (by rfl) T.int (by decide +kernel) rfl) pa_nil))))) (pw_or (pt_val (pe_callB (k_isi (K := K)) (by rfl) T.isinstance (by decide +kernel) (pa_cons (pv 3) (pa_cons (pe_bltn (v := .ty "bool") (by rfl) T.bool (by decide +kernel) rfl) pa_nil)))) (pw_or1 (pt_not (pt_chain op_le op_lt (pe_op op_sub pe_int (pv 0)) (pv 3) (pe_callB (k_len (K := K)) (by rfl) T.len (by decide +kernel) (pa_cons (pv 1) pa_nil)))))))) (pss_one (ps_ret pe_bl)) pss_nil))))))
      (pss_one (ps_ret (pe_cmpR op_eq (pe_callB (k_len (K := K)) (by rfl) T.len (by decide +kernel) (pa_cons (pe_g G__law_met hgu (hr.mono (by decide)) (by rfl) m__law_met F__law_met.kp b__law_met .nil pass0 (pa_cons (pv 1) pa_nil)) pa_nil)) (pe_callB (k_len (K := K)) (by rfl) T.len (by decide +kernel) (pa_cons (pv 1) pa_nil)) (nomark _))))))), ?_⟩
    refine ⟨_, rfl, Nat.zero_le _, fun pz npz => ?_⟩
    have s1 : Same H (upd H pz (.tup [])) := same_new npz
    refine ⟨D, pz, rfl, dx_same s1 hd, .inl (.inl upd_same), _, rfl, ?_⟩
    have hd1 := dx_same s1 hd
    generalize upd H pz (.tup []) = H1 at s1 hd1 ⊢
    have no : ∀ H3, Same H H3 → ¬ TreeP m D → Q (.bl false) H3 := fun H3 s3 h => by
      have z := q H3 s3
      rw [tree_no h] at z
      exact z
    have rest : ∀ (R : Bool → Hp → Prop), (isUnit D = true → R true H1) → (isUnit D = false → R false H1) → (if isUnit D = true then tB (tCB (rIsi K) (tCons (tVar 1) (tCons (tC (V.ty "tuple")) tNil))) (L2.start N__law_is_tree [V.int m, x]) H1 R else R false H1) := by
      intro R h1 h2
      cases e : isUnit D with
      | true =>
        refine ifT rfl ⟨_, rfl, _, _, _, _, _, rfl, .ty "tuple", dx_ty hd1, isx_tuple D, _, rfl, ?_⟩
        have : isTup D = true := by
          cases D <;> first | rfl | cases e
        rw [this]
        exact h1 e
      | false => exact ifF rfl (h2 e)
    refine rest _ (fun eu => ?_) (fun eu => ?_)
    · refine ifT rfl ⟨_, rfl, rfl, ?_⟩
      have z := q H1 s1
      have e : isTreeD m D = (m == 1) := tree_is (by
        cases D with
        | tuple ds =>
          cases ds with
          | nil => simp [TreeP]
          | cons a r => cases eu
        | _ => cases eu)
      rw [e] at z
      rw [dec_int]
      exact z
    · refine ifF rfl ⟨_, rfl, _, _, _, _, _, rfl, .ty "tuple", dx_ty hd1, isx_tuple D, _, rfl, ?_⟩
      cases et : isTup D with
      | false =>
        refine ifT (by rfl) (no H1 s1 ?_)
        cases D <;> first | exact id | cases et
      | true =>
      obtain ⟨ds, rfl⟩ : ∃ ds, D = .tuple ds := by cases D <;> simp [isTup] at et ⊢
      have l0 : ds.length ≠ 0 := fun z => by
        rw [List.eq_nil_of_length_eq_zero z] at eu
        cases eu
      obtain ⟨p, xs, rfl, hp, ha⟩ := dx_tuple hd1
      have lx := dxA_len ha
      have bd2 : PyData.bulkAll ds ≤ 800 := by simpa only [PyData.bulk] using bd
      have lb := bulkA_len ds
      refine ifF (by rfl) ⟨_, rfl, p, rfl, ⟨_, hp⟩, for_it (walk_tup (K := K) (a := p) (xs := xs)) (fun i σ HI => ∃ (y2 y3 : Option V), σ = [some (.int m), some (.ref p), y2, y3] ∧ Same H1 HI ∧ ∀ j d, j < i → ds[j]? = some d → nodeOk m ds.length d = true) ⟨_, _, rfl, Same.refl _, fun j d h => absurd h (Nat.not_lt_zero _)⟩ (fun i σ HI _ ⟨_, _, _, s3, _⟩ => sameT s3 hp) ?_ ?_⟩
      · rintro i y σ HI HJ hi ⟨y2, y3, rfl, sI, okI⟩ ⟨rfl, hy⟩
        obtain ⟨E, h1, h2⟩ := dxA_get (dxA_same sI ha) hy
        have bad : ∀ H3, Same HJ H3 → nodeOk m ds.length E = false → Q (.bl false) H3 := fun H3 s3 h => no H3 (s1.trans (sI.trans s3)) (fun z => by
          have z := (tree_tup l0).mp z
          have := List.all_eq_true.mp z.1 E (List.mem_of_getElem? h1)
          rw [h] at this
          cases this)
        refine ⟨_, rfl, _, _, _, _, _, rfl, .ty "tuple", dx_ty h2, isx_tuple E, _, rfl, ?_⟩
        cases e2 : isTup E with
        | false => exact ifT (by rfl) (ifT rfl (bad _ (Same.refl _) (by cases E <;> first | rfl | cases e2)))
        | true =>
        obtain ⟨es, rfl⟩ : ∃ es, E = .tuple es := by cases E <;> simp [isTup] at e2 ⊢
        obtain ⟨py, ys, rfl, hpy, hay⟩ := dx_tuple h2
        have ly := dxA_len hay
        refine ifF (by rfl) ⟨_, rfl, py, _, rfl, .inr hpy, rfl, _, rfl, ?_⟩
        rw [dec_int]
        by_cases e3 : es.length = 2
        case neg =>
          refine ifT (by simp; omega) (bad _ (Same.refl _) ?_)
          simp [nodeOk, e3]
        refine ifF (by simp; omega) ?_
        refine ⟨_, rfl, py, rfl, ⟨_, hpy⟩, for_it (walk_tup (K := K) (a := py) (xs := ys)) (fun k σ HK => ∃ (z3 : Option V), σ = [some (.int m), some (.ref p), some (.ref py), z3] ∧ Same HJ HK ∧ ∀ j d, j < k → es[j]? = some d → sideOk m ds.length d = true) ⟨_, rfl, Same.refl _, fun j d h => absurd h (Nat.not_lt_zero _)⟩ (fun k σ HK _ ⟨_, _, s3, _⟩ => sameT s3 hpy) ?_ ?_⟩
        · rintro k v σ HK HL hk ⟨z3, rfl, sK, okK⟩ ⟨rfl, hv⟩
          obtain ⟨E2, g1, g2⟩ := dxA_get (dxA_same sK hay) hv
          have bad2 : sideOk m ds.length E2 = false → Q (.bl false) HL := fun h => bad HL sK (by
            have : es.all (sideOk m ds.length) = false := by
              rw [List.all_eq_false]
              exact ⟨E2, List.mem_of_getElem? g1, by rw [h]; exact nofun⟩
            simp [nodeOk, this])
          refine ⟨_, rfl, _, _, _, _, _, rfl, .ty "int", dx_ty g2, isx_int E2, _, rfl, ?_⟩
          cases i1 : isIntLike E2 with
          | false => exact ifT (by rfl) (ifT rfl (bad2 (by cases E2 <;> first | rfl | cases i1)))
          | true =>
          refine ifF (by rfl) ⟨_, rfl, _, _, _, _, _, rfl, .ty "bool", dx_ty g2, isx_bool E2, _, rfl, ?_⟩
          cases i2 : isBool E2 with
          | true => exact ifT (by rfl) (ifT rfl (bad2 (by cases E2 <;> first | rfl | cases i2)))
          | false =>
          obtain ⟨sd, rfl, rfl⟩ := dx_kind_int g2 i1 i2
          have more : sideOk m ds.length (.int sd) = true → ∃ z3 : Option V, ([some (.int m), some (.ref p), some (.ref py), some (.int sd)] : L2.St) = [some (.int m), some (.ref p), some (.ref py), z3] ∧ Same HJ HL ∧ ∀ j d, j < k + 1 → es[j]? = some d → sideOk m ds.length d = true := fun h => ⟨_, rfl, sK, fun j d hj hd => by
            by_cases e : j < k
            · exact okK j d e hd
            · have : j = k := by omega
              rw [this, g1] at hd
              cases hd
              exact h⟩
          refine ifF (by rfl) ⟨_, rfl, _, _, rfl, rfl, _, rfl, _, _, rfl, rfl, _, rfl, ?_⟩
          by_cases c1 : 0 - m ≤ sd
          · refine ifT (decide_eq_true c1) ⟨_, rfl, p, _, rfl, .inr (sameT (sI.trans sK) hp), _, _, rfl, rfl, _, rfl, ?_⟩
            by_cases c2 : sd < (xs.length : Int)
            · rw [decide_eq_true c2]
              refine ifF (by rfl) (more ?_)
              simp only [sideOk, Bool.and_eq_true, decide_eq_true_eq]
              omega
            · rw [decide_eq_false c2]
              refine ifT (by rfl) (bad2 ?_)
              have : ¬ (sd < (ds.length : Int)) := by omega
              simp [sideOk, this]
          · refine ifF (decide_eq_false c1) ⟨_, rfl, ifT (by rfl) (bad2 ?_)⟩
            have : ¬ (-m ≤ sd) := by omega
            simp [sideOk, this]
        · rintro σ HK ⟨z3, rfl, sK, okK⟩
          refine ⟨_, _, rfl, sI.trans sK, fun j d hj hd => ?_⟩
          by_cases e : j < i
          · exact okI j d e hd
          · have : j = i := by omega
            rw [this, h1] at hd
            cases hd
            simp only [nodeOk, Bool.and_eq_true, decide_eq_true_eq, List.all_eq_true]
            refine ⟨e3, fun d hd => ?_⟩
            obtain ⟨j2, hj2⟩ := List.mem_iff_getElem?.mp hd
            exact okK j2 d (by have := (List.getElem?_eq_some_iff.mp hj2).1; omega) hj2
      · rintro σ HI ⟨y2, y3, rfl, sI, okI⟩
        have all : ds.all (nodeOk m ds.length) = true := by
          rw [List.all_eq_true]
          intro d hd
          obtain ⟨j, hj⟩ := List.mem_iff_getElem?.mp hd
          exact okI j d (by have := (List.getElem?_eq_some_iff.mp hj).1; omega) hj
        have tr := nodes_good all l0
        have hpI := sameT sI hp
        refine ⟨_, rfl, p, ds.map pairOf, rfl, ⟨xs, .inr hpI, nodes_at (dxA_same sI ha) all⟩, tr.good, by rw [List.length_map]; omega, fun po o H3 s3 npo hO mt => ?_⟩
        refine ⟨po, _, rfl, .inl (SqL.of hO), _, rfl, p, _, rfl, .inr (sameT s3 hpI), rfl, ?_⟩
        have z := q H3 (s1.trans (sI.trans s3))
        have e : isTreeD m (.tuple ds) = (((o.map V.int).length : Int) == (xs.length : Int)) := tree_is (by
          rw [tree_tup l0, List.length_map, beq_iff_eq, lx]
          constructor
          · rintro ⟨_, h⟩
            rw [h o mt]
          · intro h
            refine ⟨all, fun o2 m2 => ?_⟩
            rw [m2.len_eq mt]
            omega)
        rw [e] at z
        rw [dec_int]
        exact z
end
end SG

/-! y = {k: v for ..} -/
namespace SG
open PySem PySem.Spec PyProof.Rows L2
section
variable {X : Cx}
theorem ps_setDc {i : Nat} {y : Str} {py : Pos} {kx vx tg iter : Expr} {ifs : List Expr} {scope : Scope} {own : List (Str × Nat)} {pos spos : Pos} {wi : TI} {g : TG} {tt : TT} {tk tv : TE} (hc : X.calm = true) (hN : X.N.Nodup) (hy : X.N[i]? = some y) (hyl : X.env.scope.names.lookup y = some .local)
    (hsw : swapsWith (.DictComp kx vx [⟨tg, iter, ifs, 0⟩] scope pos) (some (.Name y py)) spos.line X.env = pure true) (hi : PI X tg iter wi) (ok : BlkOk X.N X.env.scope scope own)
    (hg : ∀ (s : Shared) (H : Hp) (C : Addr) (cl : List (Str × Addr)) (fp : List Addr), PG (X.blk s H scope (compEnvC scope cl C X.env) fp) tg g) (ht : ∀ (s : Shared) (H : Hp) (C : Addr) (cl : List (Str × Addr)) (fp : List Addr), PTs (X.blk s H scope (compEnvC scope cl C X.env) fp) ifs tt)
    (hk : ∀ (s : Shared) (H : Hp) (C : Addr) (cl : List (Str × Addr)) (fp : List Addr), PE (X.blk s H scope (compEnvC scope cl C X.env) fp) kx tk)
    (he : ∀ (s : Shared) (H : Hp) (C : Addr) (cl : List (Str × Addr)) (fp : List Addr), PE (X.blk s H scope (compEnvC scope cl C X.env) fp) vx tv) (hs : ∀ x, foldedSetIterable iter X.env x = pure x := by intro _; rfl) :
    PS X (.Assign [.Name y py] (.DictComp kx vx [⟨tg, iter, ifs, 0⟩] scope pos) spos) (tAsg (tDc wi g tt tk tv (own.map (·.2))) (gName i)) := by
  refine ⟨fun pins s σ H D I h => ?_⟩
  rw [exec_Assign_Name_used _ _ _ _ hsw]
  refine wpAny_bind (wpAny_standAt (wpAny_bind ?_))
  show wpAny _ X.A (do let _ ← comprehension (.DictComp kx vx [⟨tg, iter, ifs, 0⟩] scope pos) scope X.env (firstIterPos [⟨tg, iter, ifs, 0⟩] pos) newDict false (eval iter X.env) (some (assign (.Name y py) X.env))) _ _ s
  have h : tDc wi g tt tk tv (own.map (·.2)) σ H (fun x H1 => gName i x σ H1 D.nx) := h
  refine wpAny_bind (thn (dc_core (Qf := fun _ s' => SP X pins D .next s') hc hN I hi ok hg ht hk he hs h fun L C s' m H' I' q hn f => ?_) fun _ s' hq => wpAny_pure (wpAny_pure hq))
  show wpAny _ _ (assign (.Name y py) X.env (.ref L)) _ _ _
  refine wpAny_assign_Name (store_ok2 (v := V.ref L) I' hN hy (.inl hyl) rfl (fun s2 I2 ⟨a, sb, ha⟩ => ?_) (.inr hyl))
  obtain ⟨f0, f1, f2, f3, f4, f5⟩ := f
  have haC : C ≠ a := by
    rcases ha with z | z
    · rw [z]; exact f1
    · exact fun e => f4 y a z e.symm
  refine ⟨m, hn.sameBut sb haC, fun h3 sb3 => ?_⟩
  exact ⟨_, H', I2.turned (t' := s2.toks) (fun b o hb e => (sb3.2 b hb).trans e) f0 f1 f3 f4 f5, q⟩
theorem sw_trueD {kx vx : Expr} {gs : List Comprehension} {scope : Scope} {pos py : Pos} {y : Str} {l : Nat} {env : Env} (hk : env.scope.kind = .function) (hy : env.scope.names.lookup y = some .local) (hl : (py.line == pos.line) = true)
    (ha : (scope.names.any fun (n, k) => n == y && (k == .local || k == .cell)) = false) : swapsWith (.DictComp kx vx gs scope pos) (some (.Name y py)) l env = pure true := by
  have ky : env.kindOf y = some .local := hy
  have hb : env.blockKind = .function := by unfold Env.blockKind; rw [hk]; rfl
  unfold swapsWith
  simp only [hb, ky, ha, Expr.pos, hl]
  rfl
end
end SG

namespace SG
open PySem PySem.Spec PyProof.Rows L2
def posI (q : Int × Int) : List Int := [q.1, q.2].filter fun s => decide (0 ≤ s)
def pushD (r : List Int × List Int) (g : Int) : List Int × List Int := if g ∈ r.1 then r else (r.1 ++ [g], r.2 ++ [g])
structure Dfs (T : List (Int × Int)) (o w : List Int) : Prop where
  nd : o.Nodup
  re : ∀ k ∈ o, Reach T k
  z : (0 : Int) ∈ o
  sub : ∀ k ∈ w, k ∈ o
  cl : ∀ k ∈ o, k ∉ w → ∀ g ∈ posI (nodeT T k), g ∈ o
theorem pos_reach {T : List (Int × Int)} {k g : Int} (h : Reach T k) (hg : g ∈ posI (nodeT T k)) : Reach T g := by
  obtain ⟨h1, h2⟩ := List.mem_filter.mp hg
  have h2 := of_decide_eq_true h2
  rcases List.mem_cons.mp h1 with rfl | h1
  · exact .fst h h2
  · rw [List.mem_singleton.mp h1] at h2 ⊢
    exact .snd h h2
theorem Dfs.start (T : List (Int × Int)) : Dfs T [0] [0] := ⟨by simp, fun k h => by rw [List.mem_singleton.mp h]; exact .zero, List.mem_singleton.mpr rfl, fun _ h => h, fun k h1 h2 => absurd h1 h2⟩
theorem push_all {T : List (Int × Int)} : ∀ (gs : List Int) (o w : List Int), (∀ g ∈ gs, Reach T g) → o.Nodup → (∀ k ∈ o, Reach T k) → (∀ k ∈ w, k ∈ o) →
    (gs.foldl pushD (o, w)).1.Nodup ∧ (∀ k ∈ (gs.foldl pushD (o, w)).1, Reach T k) ∧ (∀ k ∈ (gs.foldl pushD (o, w)).2, k ∈ (gs.foldl pushD (o, w)).1) ∧ (∀ k ∈ o, k ∈ (gs.foldl pushD (o, w)).1) ∧ (∀ k ∈ w, k ∈ (gs.foldl pushD (o, w)).2) ∧ (∀ k ∈ (gs.foldl pushD (o, w)).1, k ∈ o ∨ k ∈ (gs.foldl pushD (o, w)).2) ∧
    (∀ g ∈ gs, g ∈ (gs.foldl pushD (o, w)).1) ∧ (gs.foldl pushD (o, w)).1.length + w.length = o.length + (gs.foldl pushD (o, w)).2.length
  | [], o, w, _, nd, re, sub => ⟨nd, re, sub, fun _ h => h, fun _ h => h, fun _ h => .inl h, fun _ h => (nomatch h), rfl⟩
  | g :: gs, o, w, hg, nd, re, sub => by
    rw [List.foldl_cons]
    by_cases e : g ∈ o
    · have ep : pushD (o, w) g = (o, w) := if_pos e
      rw [ep]
      obtain ⟨a1, a2, a3, a4, a5, a6, a7, a8⟩ := push_all gs o w (fun x hx => hg x (List.mem_cons_of_mem _ hx)) nd re sub
      exact ⟨a1, a2, a3, a4, a5, a6, fun x hx => by rcases List.mem_cons.mp hx with rfl | hx; exact a4 _ e; exact a7 x hx, a8⟩
    · have ep : pushD (o, w) g = (o ++ [g], w ++ [g]) := if_neg e
      rw [ep]
      have nd2 : (o ++ [g]).Nodup := by
        rw [List.nodup_append]
        exact ⟨nd, by simp, fun a ha b hb z => by rw [List.mem_singleton.mp hb] at z; exact e (z ▸ ha)⟩
      have re2 : ∀ k ∈ o ++ [g], Reach T k := fun k hk => by
        rcases List.mem_append.mp hk with hk | hk
        · exact re k hk
        · rw [List.mem_singleton.mp hk]; exact hg g List.mem_cons_self
      have sub2 : ∀ k ∈ w ++ [g], k ∈ o ++ [g] := fun k hk => by
        rcases List.mem_append.mp hk with hk | hk
        · exact List.mem_append_left _ (sub k hk)
        · exact List.mem_append_right _ hk
      obtain ⟨a1, a2, a3, a4, a5, a6, a7, a8⟩ := push_all gs (o ++ [g]) (w ++ [g]) (fun x hx => hg x (List.mem_cons_of_mem _ hx)) nd2 re2 sub2
      refine ⟨a1, a2, a3, fun k hk => a4 k (List.mem_append_left _ hk), fun k hk => a5 k (List.mem_append_left _ hk), fun k hk => ?_, fun x hx => ?_, ?_⟩
      · rcases a6 k hk with h | h
        · rcases List.mem_append.mp h with h | h
          · exact .inl h
          · exact .inr (a5 k (List.mem_append_right _ h))
        · exact .inr h
      · rcases List.mem_cons.mp hx with rfl | hx
        · exact a4 _ (List.mem_append_right _ (List.mem_singleton.mpr rfl))
        · exact a7 x hx
      · rw [List.length_append, List.length_append, List.length_singleton] at a8
        omega
theorem Dfs.step {T : List (Int × Int)} {o w : List Int} {s : Int} (h : Dfs T o (w ++ [s])) : Dfs T ((posI (nodeT T s)).foldl pushD (o, w)).1 ((posI (nodeT T s)).foldl pushD (o, w)).2 ∧ ((posI (nodeT T s)).foldl pushD (o, w)).1.length + w.length = o.length + ((posI (nodeT T s)).foldl pushD (o, w)).2.length := by
  have rs : Reach T s := h.re s (h.sub s (List.mem_append_right _ (List.mem_singleton.mpr rfl)))
  obtain ⟨a1, a2, a3, a4, a5, a6, a7, a8⟩ := push_all (T := T) (posI (nodeT T s)) o w (fun g hg => pos_reach rs hg) h.nd h.re (fun k hk => h.sub k (List.mem_append_left _ hk))
  refine ⟨⟨a1, a2, a4 0 h.z, a3, fun k hk hn g hg => ?_⟩, a8⟩
  rcases a6 k hk with hk | hk
  · by_cases e : k = s
    · rw [e] at hg
      exact a7 g hg
    · refine a4 g (h.cl k hk (fun hw => ?_) g hg)
      rcases List.mem_append.mp hw with hw | hw
      · exact hn (a5 k hw)
      · exact e (List.mem_singleton.mp hw)
  · exact absurd hk hn
theorem Dfs.done {T : List (Int × Int)} {o : List Int} (h : Dfs T o []) : Met T o := by
  refine ⟨h.nd, fun k => ⟨h.re k, fun r => ?_⟩⟩
  induction r with
  | zero => exact h.z
  | fst r h1 ih => exact h.cl _ ih List.not_mem_nil _ (List.mem_filter.mpr ⟨List.mem_cons_self, decide_eq_true h1⟩)
  | snd r h1 ih => exact h.cl _ ih List.not_mem_nil _ (List.mem_filter.mpr ⟨List.mem_cons_of_mem _ List.mem_cons_self, decide_eq_true h1⟩)
theorem Dfs.len {T : List (Int × Int)} {o w : List Int} (g : GoodT T) (h : Dfs T o w) : o.length ≤ T.length := nd_len _ h.nd fun k hk => (h.re k hk).lo g
end SG

namespace SG
open PySem PySem.Spec PyProof.Rows L2
section
variable {P : Program} {w : World} {K : PySem.W.Frag} {mg : Str → Option Value} {base : Heap}
theorem dc_it {J : It} {n : Nat} {G : Hp → Prop} {Y : Nat → Hp → V → Hp → Prop} (w : Walk J n G Y) {g : TG} {tt : TT} {tk tv : TE} {vs : List Nat} {σ : L2.St} {H1 : Hp} {D : Addr} {Qd : Hp → Prop} (Pv : Nat → Hp → Prop) (h0 : Pv 0 (upd H1 D (.dK []))) (hG : ∀ i H, i ≤ n → Pv i H → G H)
    (hs : ∀ i x H H', i < n → Pv i H → Y i H x H' → g x (wipe σ vs) H' fun σ2 H2 => wipe σ2 vs = wipe σ vs ∧ tt σ2 H2 fun b H3 =>
      if b = true then tk σ2 H3 fun y H4 => tv σ2 H4 fun z H5 => ∃ kvs k, y = kV k ∧ H5 D = some (.dK kvs) ∧ kvs.length < sizeLine ∧ Pv (i + 1) (upd H5 D (.dK (putK kvs k z))) else Pv (i + 1) H3) (hd : ∀ H, Pv n H → Qd H) :
    ∃ W : Nat → Nat → Hp → Prop, (∃ m, W 0 m (upd H1 D (.dK []))) ∧ ∀ i m H, W i m H →
      (J.stop i H ∧ Qd H) ∨ (J.go i H ∧ ∃ Nx : Hp → Prop, (∀ H', Nx H' → ∃ m', m' < m ∧ W (i + 1) m' H') ∧ ∀ x H', J.yld i H x H' → g x (wipe σ vs) H' fun σ2 H2 => wipe σ2 vs = wipe σ vs ∧ tt σ2 H2 fun b H3 =>
        if b = true then tk σ2 H3 fun y H4 => tv σ2 H4 fun z H5 => ∃ kvs k, y = kV k ∧ H5 D = some (.dK kvs) ∧ kvs.length < sizeLine ∧ Nx (upd H5 D (.dK (putK kvs k z))) else Nx H3) := by
  refine ⟨fun i m H => m = n - i ∧ i ≤ n ∧ Pv i H, ⟨n, by simp, Nat.zero_le _, h0⟩, ?_⟩
  rintro i m H ⟨rfl, hi, p⟩
  have q := hG i H hi p
  by_cases hlt : i < n
  · refine .inr ⟨w.goes i H hlt q, Pv (i + 1), fun H' p' => ⟨n - (i + 1), by omega, rfl, hlt, p'⟩, fun x H' y => hs i x H H' hlt p (w.yields i H x H' hlt q y)⟩
  · have e : i = n := by omega
    subst e
    exact .inl ⟨w.stops H q, hd H p⟩
def spIsInt (K : PySem.W.Frag) : Sp := fun vs H Q _ => ∃ (x : V) (d : PyData), vs = [x] ∧ Dx K H x d ∧ Q (.bl (isInt d)) H
theorem ok_is_integer {f : Addr} {fd : FuncData} (F : Fun K "is_integer" "is_integer" s_is_integer f fd) (T : Txt mg) : GFn P w K mg base CX0 1 f fd ["thing"] (spIsInt K) := by
  refine gfun_ok F sc_is_integer (fun vs H Q E h => ?_) (fun cdv A outer s H vs Q E hgu hr h => ?_)
  · obtain ⟨x, d, rfl, _⟩ := h
    rfl
  · obtain ⟨x, d, rfl, hd, q⟩ := h
    have nd := sc_is_integer.nd
    refine ⟨_, (pss_one (ps_ret (pe_and (pe_callB (k_isi (K := K)) (by rfl) T.isinstance (by decide +kernel) (pa_cons (pv 0) (pa_cons (pe_bltn (v := .ty "int") (by rfl) T.int (by decide +kernel) rfl) pa_nil))) (pe_one (pe_not (pe_callB (k_isi (K := K)) (by rfl) T.isinstance (by decide +kernel) (pa_cons (pv 0) (pa_cons (pe_bltn (v := .ty "bool") (by rfl) T.bool (by decide +kernel) rfl) pa_nil)))))))), ?_⟩
    refine ⟨_, rfl, _, _, _, _, _, rfl, .ty "int", dx_ty hd, isx_int d, _, rfl, ?_⟩
    by_cases e : isIntLike d = true
    · refine ifT e ⟨_, rfl, _, _, _, _, _, rfl, .ty "bool", dx_ty hd, isx_bool d, _, rfl, ?_⟩
      have z : (!isBool d) = isInt d := by cases d <;> simp [isIntLike, isBool, isInt] at e ⊢
      show Q (.bl (!isBool d)) H
      rw [z]
      exact q
    · refine ifF (by simpa using e) ?_
      have z : isInt d = false := by cases d <;> simp [isIntLike, isInt] at e ⊢
      rw [z] at q
      exact q
def spTupOf (K : PySem.W.Frag) : Sp := fun vs H Q _ => ∃ (x : V) (d : PyData) (n : Int), vs = [x, .int n] ∧ Dx K H x d ∧ (isTup d = false → Q (.bl false) H) ∧ (∀ ds, d = .tuple ds → Q (.bl (decide ((ds.length : Int) = n))) H)
theorem ok_tuple_of {f : Addr} {fd : FuncData} (F : Fun K "is_tuple_of" "is_tuple_of" s_is_tuple_of f fd) (T : Txt mg) : GFn P w K mg base CX0 1 f fd ["thing", "many"] (spTupOf K) := by
  refine gfun_ok F sc_is_tuple_of (fun vs H Q E h => ?_) (fun cdv A outer s H vs Q E hgu hr h => ?_)
  · obtain ⟨x, d, n, rfl, _⟩ := h
    rfl
  · obtain ⟨x, d, n, rfl, hd, q1, q2⟩ := h
    have nd := sc_is_tuple_of.nd
    refine ⟨_, (pss_one (ps_ret (pe_and (pe_callB (k_isi (K := K)) (by rfl) T.isinstance (by decide +kernel) (pa_cons (pv 0) (pa_cons (pe_bltn (v := .ty "tuple") (by rfl) T.tuple (by decide +kernel) rfl) pa_nil))) (pe_one (pe_cmpR op_eq (pe_callB (k_len (K := K)) (by rfl) T.len (by decide +kernel) (pa_cons (pv 0) pa_nil)) (pv 1) (nomark _)))))), ?_⟩
    refine ⟨_, rfl, _, _, _, _, _, rfl, .ty "tuple", dx_ty hd, isx_tuple d, _, rfl, ?_⟩
    cases e : isTup d with
    | false => exact ifF (by rfl) (q1 e)
    | true =>
      obtain ⟨ds, rfl⟩ : ∃ ds, d = .tuple ds := by cases d <;> simp [isTup] at e ⊢
      obtain ⟨p, xs, rfl, hp, ha⟩ := dx_tuple hd
      have lx := dxA_len ha
      refine ifT (by rfl) ⟨_, rfl, p, _, rfl, .inr hp, _, rfl, rfl, ?_⟩
      have z := q2 ds rfl
      rw [dec_int, lx]
      have e2 : ((ds.length : Int) == n) = decide ((ds.length : Int) = n) := by
        rw [Bool.eq_iff_iff]
        simp
      rw [e2]
      exact z
/-- the table of the nodes' onward nodes -/
def tabK (ls : List Addr) : List (Key × V) := ls.zipIdx.map fun r => ((Sum.inl (r.2 : Nat) : Key), V.ref r.1)
def PosAt (H : Hp) (ls : List Addr) (T : List (Int × Int)) : Prop := Paired (fun (l : Addr) (q : Int × Int) => H l = some (.lst ((posI q).map V.int))) ls T
theorem PosAt.keep {H H2 : Hp} (k : ∀ l ys, H l = some (.lst ys) → H2 l = some (.lst ys)) : ∀ {ls : List Addr} {T : List (Int × Int)}, PosAt H ls T → PosAt H2 ls T
  | _, _, .nil => .nil
  | _, _, .cons a r => .cons (k _ _ a) (PosAt.keep k r)
theorem PosAt.len {H : Hp} : ∀ {ls : List Addr} {T : List (Int × Int)}, PosAt H ls T → ls.length = T.length
  | _, _, .nil => rfl
  | _, _, .cons _ r => congrArg (· + 1) (PosAt.len r)
theorem PosAt.snoc {H : Hp} {l : Addr} {q : Int × Int} : ∀ {ls : List Addr} {T : List (Int × Int)}, PosAt H ls T → H l = some (.lst ((posI q).map V.int)) → PosAt H (ls ++ [l]) (T ++ [q])
  | _, _, .nil, h => .cons h .nil
  | _, _, .cons a r, h => .cons a (PosAt.snoc r h)
theorem PosAt.at {H : Hp} : ∀ {ls : List Addr} {T : List (Int × Int)} {i : Nat} {q : Int × Int}, PosAt H ls T → T[i]? = some q → ∃ l, ls[i]? = some l ∧ H l = some (.lst ((posI q).map V.int))
  | _, _, _, _, .nil, e => by simp at e
  | _, _, 0, _, .cons h r, e => by
    simp at e
    subst e
    exact ⟨_, rfl, h⟩
  | _, _, i + 1, q, .cons _ r, e => by
    obtain ⟨l, h1, h2⟩ := PosAt.at (i := i) (q := q) r (by simpa using e)
    exact ⟨l, by simpa using h1, h2⟩
theorem val_zip : ∀ (ls : List Addr) (n : Nat) (k : Nat), valV ((ls.zipIdx n).map fun r => ((Sum.inl (r.2 : Nat) : Key), V.ref r.1)) (Sum.inl ((n + k : Nat) : Int)) = (ls[k]?).map V.ref
  | [], n, k => by simp [valV]
  | l :: r, n, 0 => by
    rw [List.zipIdx_cons, List.map_cons, Nat.add_zero]
    show valV ((Sum.inl ((n : Nat) : Int), V.ref l) :: _) (Sum.inl ((n : Nat) : Int)) = some (V.ref l)
    exact valV_pos rfl
  | l :: r, n, k + 1 => by
    rw [List.zipIdx_cons, List.map_cons]
    show valV ((Sum.inl ((n : Nat) : Int), V.ref l) :: _) _ = _
    have ne : ¬ (Sum.inl ((n : Nat) : Int) : Key) = Sum.inl ((n + (k + 1) : Nat) : Int) := fun z => by
      have := Sum.inl.inj z
      omega
    rw [valV_neg ne, show n + (k + 1) = (n + 1) + k by omega, val_zip r (n + 1) k]
    rfl
theorem val_tab (ls : List Addr) (k : Nat) : valV (tabK ls) (Sum.inl (k : Nat)) = (ls[k]?).map V.ref := by
  have z := val_zip ls 0 k
  rw [Nat.zero_add] at z
  exact z
theorem tab_put (ls : List Addr) (l : Addr) : putK (tabK ls) (Sum.inl (ls.length : Nat)) (.ref l) = tabK (ls ++ [l]) := by
  rw [putK_new _ (by rw [val_tab, List.getElem?_eq_none (Nat.le_refl _)]; rfl)]
  unfold tabK
  rw [List.zipIdx_append, List.map_append]
  simp
theorem tab_len (ls : List Addr) : (tabK ls).length = ls.length := by unfold tabK; simp
def spOnward (K : PySem.W.Frag) : Sp := fun vs H Q _ => ∃ (p : Addr) (xs : List V) (T : List (Int × Int)), vs = [.ref p] ∧ SqT K H p xs ∧ NdAt K H xs T ∧ T.length ≤ 900 ∧
  ∀ (a : Addr) (ls : List Addr) (H2 : Hp), Same H H2 → H2 a = some (.dK (tabK ls)) → PosAt H2 ls T → Q (.ref a) H2
theorem ok_onward {f : Addr} {fd : FuncData} (F : Fun K "onward_nodes" "onward_nodes" s_onward_nodes f fd) (T : Txt mg) : GFn P w K mg base CX0 1 f fd ["tree"] (spOnward K) := by
  refine gfun_ok F sc_onward_nodes (fun vs H Q E h => ?_) (fun cdv A outer s H vs Q E hgu hr h => ?_)
  · obtain ⟨p, xs, T2, rfl, _⟩ := h
    rfl
  · obtain ⟨p, xs, T2, rfl, hp, na, tl, q⟩ := h
    have nd := sc_onward_nodes.nd
    refine ⟨_, (pss_one (ps_ret (pe_dc (own := [("node", 1), ("pair", 2)]) rfl nd (k_enumT (K := K) (by rfl) T.enumerate (pa_cons (pv 0) pa_nil)) (blkOk_by (N := N_onward_nodes) (sc := defScope s_onward_nodes) (by decide +kernel)) (fun _ _ _ _ _ => (k_tg (K := K) (n := 2) rfl (pgs_cons (pg_name (i := 1) nd rfl (Or.inl rfl)) (pgs_cons (pg_name (i := 2) nd rfl (Or.inl rfl)) pgs_nil)))) (fun _ _ _ _ _ => pts_nil) (fun _ _ _ _ _ => (pv 1)) (fun _ _ _ _ _ => (pe_lc (own := [("place", 3)]) rfl nd (k_tupI (K := K) (pv 2)) (blkOk_by (by rfl)) (fun _ _ _ _ _ => (pg_name (i := 3) nd rfl (Or.inl rfl))) (fun _ _ _ _ _ => (pts_one (pt_cmpR op_ge (pv 3) pe_int (nomark _)))) (fun _ _ _ _ _ => (pv 3))))))), ?_⟩
    have lx := na.len
    refine ⟨_, rfl, p, _, rfl, hp, fun D1 nD1 => ?_⟩
    refine dc_it (walk_enumT (K := K) (a := p) (xs := xs)) (fun i HI => Same H HI ∧ ∃ ls : List Addr, HI D1 = some (.dK (tabK ls)) ∧ PosAt HI ls (T2.take i) ∧ ls.length = i) ⟨same_new nD1, [], upd_same, .nil, rfl⟩ (fun i HI _ h => sameT h.1 hp) ?_ ?_
    · rintro i v HI HJ hi ⟨sI, ls, hD, pa, ll⟩ ⟨T9, x9, y, rfl, n9, rfl, e9, hy⟩
      cases e9
      have hiT : i < T2.length := by omega
      obtain ⟨x', a', e1, rfl, e3⟩ := (na.keep fun _ _ h => sameT sI h).at (List.getElem?_eq_getElem hiT)
      have hy : xs[i]? = some y := hy
      rw [e1] at hy
      cases hy
      have s9 : Same HI (upd HI T9 (.tup [.int (i : Nat), .ref a'])) := same_new n9
      have h99 : upd HI T9 (.tup [.int (i : Nat), .ref a']) T9 = some (.tup [.int (i : Nat), .ref a']) := upd_same
      have hD9 := s9 _ _ hD
      have pa9 := pa.keep fun l ys h => s9 _ _ h
      have e39 := sameT s9 e3
      have sJ := sI.trans s9
      generalize upd HI T9 (.tup [.int (i : Nat), .ref a']) = HJ at s9 h99 hD9 pa9 e39 sJ ⊢
      refine ⟨T9, _, rfl, .inl (.inl h99), rfl, _, _, rfl, _, _, rfl, rfl, wipe2 _ _ _ _ _, ?_⟩
      refine yesI (A := fun H7 => _) ?_
      refine ⟨_, rfl, _, rfl, a', rfl, ⟨_, e39⟩, fun D2 nD2 => ?_⟩
      refine lc_pass (ns := [T2[i].1, T2[i].2]) (walk_tup (K := K) (a := a')) (by show 2 ≤ 1000; decide) (by rw [List.length_set, List.length_set, wipe_length]; show 3 < 4; decide) nD2 (fun s => decide (0 ≤ s)) (fun H7 s7 => sameT s7 e39) (fun sd H7 hsd s7 R hR => ⟨_, rfl, _, _, rfl, rfl, _, rfl, hR _ (Same.refl _)⟩) (fun H7 s7 hD7 => ?_)
      refine ⟨tabK ls, .inl (i : Nat), rfl, s7 _ _ hD9, by rw [tab_len]; exact small1000 (by omega), same_upd_of (sJ.trans s7) nD1, ls ++ [D2], ?_, ?_, by rw [List.length_append, ll]; rfl⟩
      · rw [upd_same, ← ll, tab_put]
      · have e : T2.take (i + 1) = T2.take i ++ [T2[i]] := by
          rw [List.take_add_one, List.getElem?_eq_getElem hiT]
          rfl
        rw [e]
        have D12 : ∀ l ys, H7 l = some (.lst ys) → upd H7 D1 (.dK (putK (tabK ls) (.inl (i : Nat)) (.ref D2))) l = some (.lst ys) := fun l ys h => by
          rw [upd_ne (ne_of h (s7 _ _ hD9) nofun)]
          exact h
        exact (pa9.keep fun l ys h => D12 l ys (s7 _ _ h)).snoc (D12 _ _ hD7)
    · rintro HI ⟨sI, ls, hD, pa, ll⟩
      rw [lx, List.take_of_length_le (Nat.le_refl _)] at pa
      exact q D1 ls HI sI hD pa
end
end SG

namespace SG
open PySem PySem.Spec PyProof.Rows L2
section
variable {P : Program} {w : World} {K : PySem.W.Frag} {mg : Str → Option Value} {base : Heap}
def metK (o : List Int) : List (Key × V) := o.map fun k => (Sum.inl k, V.bl true)
theorem val_met : ∀ (o : List Int) (k : Int), valV (metK o) (Sum.inl k) = if k ∈ o then some (V.bl true) else none
  | [], k => by simp [metK, valV]
  | a :: r, k => by
    have ih := val_met r k
    by_cases e : a = k
    · subst e
      show valV ((Sum.inl a, V.bl true) :: metK r) (Sum.inl a) = _
      rw [valV_pos rfl, if_pos List.mem_cons_self]
    · show valV ((Sum.inl a, V.bl true) :: metK r) (Sum.inl k) = _
      have ne : ¬ (Sum.inl a : Key) = Sum.inl k := fun z => e (Sum.inl.inj z)
      rw [valV_neg ne, ih]
      have : (k ∈ a :: r) ↔ k ∈ r := by simp [Ne.symm e, eq_comm, e]
      by_cases h : k ∈ r
      · rw [if_pos h, if_pos (this.mpr h)]
      · rw [if_neg h, if_neg (fun z => h (this.mp z))]
theorem met_put {o : List Int} {k : Int} (h : k ∉ o) : putK (metK o) (Sum.inl k) (.bl true) = metK (o ++ [k]) := by
  rw [putK_new _ (by rw [val_met, if_neg h])]
  unfold metK
  rw [List.map_append]
  rfl
def spReached (K : PySem.W.Frag) : Sp := fun vs H Q _ => ∃ (s a : Addr) (ls : List Addr) (T : List (Int × Int)), vs = [.ref s, .ref a] ∧ H s = some (.lst ([(0 : Int)].map V.int)) ∧ H a = some (.dK (tabK ls)) ∧ PosAt H ls T ∧ GoodT T ∧ T.length ≤ 900 ∧
  ∀ (m : Addr) (o : List Int) (H2 : Hp), Same H H2 → H2 m = some (.dK (metK o)) → Met T o → Q (.ref m) H2
theorem ok_reached {f : Addr} {fd : FuncData} (F : Fun K "reached" "reached" s_reached f fd) (T : Txt mg) : GFn P w K mg base CX0 1 f fd ["starts", "table"] (spReached K) := by
  refine gfun_ok F sc_reached (fun vs H Q E h => ?_) (fun cdv A outer s H vs Q E hgu hr h => ?_)
  · obtain ⟨s, a, ls, T2, rfl, _⟩ := h
    rfl
  · obtain ⟨sa, a, ls, T2, rfl, hs, ha, pa, gt, tl, q⟩ := h
    have nd := sc_reached.nd
    refine ⟨_, (pss_cons (ps_setDc (i := 2) (own := [("state", 4)]) rfl nd rfl rfl (sw_trueD rfl rfl rfl (by decide +kernel)) (pi_list (pv 0)) (blkOk_by (N := N_reached) (sc := defScope s_reached) (by decide +kernel)) (fun _ _ _ _ _ => (pg_name (i := 4) nd rfl (Or.inl rfl))) (fun _ _ _ _ _ => pts_nil) (fun _ _ _ _ _ => (pv 4)) (fun _ _ _ _ _ => pe_bl))
      (pss_cons (ps_set (i := 3) nd rfl (Or.inl rfl) (pe_callTy (k_listOf (K := K)) (by rfl) T.list (by decide +kernel) (pa_cons (pv 0) pa_nil)))
      (pss_cons (ps_while PassesOwn.never (pt_truth (pv 3) (by intro _; rfl)) (pss_cons (ps_set (i := 4) nd rfl (Or.inl rfl) (pe_bm0 PySem.F.plainAttrs_list PySem.F.slot_list_pop PySem.F.type_list_pop mt_pop (pv 3)))
      (pss_one (ps_for PassesOwn.never rfl (pi_list (pe_dget2 (hu_of hr) (pv 1) (pv 4) (pe_tup pa_nil) ⟨by rfl, by rfl, by rfl, by rfl⟩)) (pg_name (i := 5) nd rfl (Or.inl rfl))
        (pss_one (ps_if (pt_cmp (pc_dnotin (hu_of hr) (pv 5) (pv 2))) (pss_cons (ps_dput (hu_of hr) (pv 2) (pv 5) pe_bl rfl)
      (pss_one (ps_expr (pe_bm PySem.F.plainAttrs_list PySem.F.slot_list_append PySem.F.type_list_append mt_append (pv 3) (pa_cons (pv 5) pa_nil))))) pss_nil))))))
      (pss_one (ps_ret (pv 2)))))), ?_⟩
    have ll := pa.len
    refine ⟨_, rfl, sa, rfl, ⟨_, SqL.of hs⟩, fun pm npm => ?_⟩
    refine dc_it (walk_list (K := K) (a := sa) (xs := [(0 : Int)].map V.int)) (fun i HI => Same H HI ∧ HI pm = some (.dK (metK ([(0 : Int)].take i)))) ⟨same_new npm, upd_same⟩ (fun i HI _ h => h.1.seq (SqL.of hs)) ?_ ?_
    · rintro i v HI HJ hi ⟨sI, hm⟩ ⟨rfl, hv⟩
      have i0 : i = 0 := by
        have : i < 1 := hi
        omega
      subst i0
      cases hv
      refine ⟨wipe1 _ _ _, ?_⟩
      refine yesI (A := fun H7 => _) ?_
      exact ⟨_, rfl, [], .inl 0, rfl, hm, by decide, same_upd_of sI npm, upd_same⟩
    rintro H1 ⟨s1, hm1⟩
    refine ⟨_, rfl, sa, _, rfl, .inl (s1.seq (SqL.of hs)), fun pw npw => ?_⟩
    have s2 : Same H1 (upd H1 pw (.lst ([(0 : Int)].map V.int))) := same_new npw
    have hw2 : upd H1 pw (.lst ([(0 : Int)].map V.int)) pw = some (.lst ([(0 : Int)].map V.int)) := upd_same
    have hm2 := s2 _ _ hm1
    have npw0 : H pw = none := s1.free npw
    have s02 := s1.trans s2
    have wm : pw ≠ pm := ne_of hw2 hm2 nofun
    generalize upd H1 pw (.lst ([(0 : Int)].map V.int)) = H2 at s02 hw2 hm2 ⊢
    refine ⟨fun k σ HI => ∃ (o ws : List Int) (y4 y5 : Option V), σ = [some (.ref sa), some (.ref a), some (.ref pm), some (.ref pw), y4, y5] ∧ k + o.length = T2.length + ws.length ∧ Same H HI ∧ HI pm = some (.dK (metK o)) ∧ HI pw = some (.lst (ws.map V.int)) ∧ Dfs T2 o ws ∧ ws.length ≤ o.length, ⟨T2.length, [0], [0], none, none, rfl, rfl, s02, hm2, hw2, .start T2, Nat.le_refl _⟩, ?_⟩
    rintro k σ HI ⟨o, ws, y4, y5, rfl, ek, sI, hm, hw, df, wo⟩
    have lo := df.len gt
    refine ⟨_, rfl, !(ws.map V.int).isEmpty, .inl ⟨_, SqL.of hw, rfl⟩, ?_⟩
    rcases List.eq_nil_or_concat ws with rfl | ⟨w0, z, rfl⟩
    · exact ifF (by rfl) ⟨_, rfl, q pm o HI sI hm df.done⟩
    · rw [List.concat_eq_append] at hw df ek wo
      rw [List.length_append, List.length_singleton] at ek wo
      refine ifT (by simp) ?_
      have rz := df.re z (df.sub z (List.mem_append_right _ (List.mem_singleton.mpr rfl)))
      obtain ⟨z0, z1⟩ := rz.lo gt
      obtain ⟨df2, len2⟩ := df.step
      refine ⟨fun σ' H' => ∃ (o2 ws2 : List Int) (y4 y5 : Option V), σ' = [some (.ref sa), some (.ref a), some (.ref pm), some (.ref pw), y4, y5] ∧ o2.length + w0.length = o.length + ws2.length ∧ Same H H' ∧ H' pm = some (.dK (metK o2)) ∧ H' pw = some (.lst (ws2.map V.int)) ∧ Dfs T2 o2 ws2, ?_, ?_⟩
      · rintro σ' H' ⟨o2, ws2, y4, y5, rfl, l2, s3, hm3, hw3, df3⟩
        have := df3.len gt
        exact ⟨T2.length + ws2.length - o2.length, by omega, o2, ws2, y4, y5, rfl, by omega, s3, hm3, hw3, df3, by omega⟩
      · have el : ((w0 ++ [z]).map V.int).dropLast = w0.map V.int := by simp
        have ey : ((w0 ++ [z]).map V.int)[((w0 ++ [z]).map V.int).length - 1]? = some (.int z) := by simp
        refine ⟨_, rfl, .inl ⟨rfl, _, SqL.of hw⟩, pw, _, _, rfl, rfl, hw, ey, ?_⟩
        rw [el]
        have s3 : Same H (upd HI pw (.lst (w0.map V.int))) := same_upd_of sI npw0
        have hw3 : upd HI pw (.lst (w0.map V.int)) pw = some (.lst (w0.map V.int)) := upd_same
        have hm3 : upd HI pw (.lst (w0.map V.int)) pm = some (.dK (metK o)) := by rw [upd_ne (Ne.symm wm)]; exact hm
        generalize upd HI pw (.lst (w0.map V.int)) = H3 at s3 hw3 hm3 ⊢
        obtain ⟨l, hl1, hl2⟩ := pa.at (nodeT_at z0 z1)
        refine ⟨_, rfl, a, rfl, .inl ⟨_, .inl (s3 _ _ ha)⟩, _, rfl, Nat.zero_le _, fun pe npe => ?_⟩
        have s4 : Same H3 (upd H3 pe (.tup [])) := same_new npe
        have s04 := s3.trans s4
        have hw4 := s4 _ _ hw3
        have hm4 := s4 _ _ hm3
        generalize upd H3 pe (.tup []) = H4 at s04 hw4 hm4 ⊢
        have dg : DGet H4 a (.int z) (some (.ref l)) := by
          have zz := DGet.k (k := .inl z) (s04 _ _ ha)
          have e3 : (Sum.inl z : Key) = Sum.inl ((z.toNat : Nat) : Int) := by rw [← int_nat z0]
          rw [e3, val_tab, hl1] at zz
          rw [← int_nat z0] at zz
          exact zz
        refine ⟨some (.ref l), dg, l, rfl, ⟨_, SqL.of (s04 _ _ hl2)⟩, for_it (walk_list (K := K) (a := l) (xs := (posI (nodeT T2 z)).map V.int)) (fun j σ HK => ∃ (y5 : Option V), σ = [some (.ref sa), some (.ref a), some (.ref pm), some (.ref pw), some (.int z), y5] ∧ Same H HK ∧ HK pm = some (.dK (metK (((posI (nodeT T2 z)).take j).foldl pushD (o, w0)).1)) ∧ HK pw = some (.lst ((((posI (nodeT T2 z)).take j).foldl pushD (o, w0)).2.map V.int)))
          ⟨y5, rfl, s04, hm4, hw4⟩ (fun j σ HK _ ⟨_, _, s5, _⟩ => s5.seq (SqL.of hl2)) ?_ ?_⟩
        · rintro j x σ HK HL hj ⟨y5, rfl, s5, hm5, hw5⟩ ⟨rfl, hx⟩
          obtain ⟨g, rfl, hg⟩ := get_int hx
          have e : ((posI (nodeT T2 z)).take (j + 1)).foldl pushD (o, w0) = pushD (((posI (nodeT T2 z)).take j).foldl pushD (o, w0)) g := by
            rw [List.take_add_one, hg, List.foldl_append]
            rfl
          rw [e]
          have lr : (((posI (nodeT T2 z)).take j).foldl pushD (o, w0)).1.length ≤ o.length + 2 ∧ (((posI (nodeT T2 z)).take j).foldl pushD (o, w0)).2.length ≤ w0.length + 2 := by
            have key : ∀ (l : List Int) (r : List Int × List Int), (l.foldl pushD r).1.length ≤ r.1.length + l.length ∧ (l.foldl pushD r).2.length ≤ r.2.length + l.length := by
              intro l
              induction l with
              | nil => intro r; exact ⟨Nat.le_refl _, Nat.le_refl _⟩
              | cons x t ih =>
                intro r
                have h1 := ih (pushD r x)
                have h2 : (pushD r x).1.length ≤ r.1.length + 1 ∧ (pushD r x).2.length ≤ r.2.length + 1 := by unfold pushD; split <;> simp
                rw [List.foldl_cons, List.length_cons]
                omega
            have k1 := key ((posI (nodeT T2 z)).take j) (o, w0)
            have k2 : ((posI (nodeT T2 z)).take j).length ≤ 2 := by
              rw [List.length_take]
              have : (posI (nodeT T2 z)).length ≤ 2 := List.length_filter_le _ _
              omega
            have k3 : (((posI (nodeT T2 z)).take j).foldl pushD (o, w0)).1.length ≤ o.length + ((posI (nodeT T2 z)).take j).length := k1.1
            have k4 : (((posI (nodeT T2 z)).take j).foldl pushD (o, w0)).2.length ≤ w0.length + ((posI (nodeT T2 z)).take j).length := k1.2
            omega
          generalize ((posI (nodeT T2 z)).take j).foldl pushD (o, w0) = r at hm5 hw5 lr ⊢
          refine ⟨_, rfl, _, rfl, pm, _, rfl, DGet.k (k := .inl g) hm5, _, rfl, ?_⟩
          rw [val_met]
          by_cases e1 : g ∈ r.1
          · rw [if_pos e1]
            have ep : pushD r g = r := if_pos e1
            rw [ep]
            exact ifF (by rfl) ⟨_, rfl, s5, hm5, hw5⟩
          · rw [if_neg e1]
            have ep : pushD r g = (r.1 ++ [g], r.2 ++ [g]) := if_neg e1
            rw [ep]
            refine ifT (by rfl) ⟨_, rfl, _, rfl, pm, _, rfl, DPut.k (k := .inl g) hm5 (by unfold metK; rw [List.length_map]; exact small1000 (by omega)), ?_⟩
            rw [met_put e1]
            have s6 : Same H (upd HL pm (.dK (metK (r.1 ++ [g])))) := same_upd_of s5 npm
            have hm6 : upd HL pm (.dK (metK (r.1 ++ [g]))) pm = some (.dK (metK (r.1 ++ [g]))) := upd_same
            have hw6 : upd HL pm (.dK (metK (r.1 ++ [g]))) pw = some (.lst (r.2.map V.int)) := by rw [upd_ne wm]; exact hw5
            generalize upd HL pm (.dK (metK (r.1 ++ [g]))) = H6 at s6 hm6 hw6 ⊢
            refine ⟨_, rfl, .inl ⟨rfl, _, SqL.of hw6⟩, _, rfl, pw, _, _, rfl, rfl, hw6, ?_, ?_⟩
            · rw [List.length_map]
              exact small1000 (by omega)
            · refine ⟨_, rfl, same_upd_of s6 npw0, by rw [upd_ne (Ne.symm wm)]; exact hm6, ?_⟩
              rw [upd_same, List.map_append]
              rfl
        · rintro σ HK ⟨y5, rfl, s5, hm5, hw5⟩
          rw [List.length_map, List.take_of_length_le (Nat.le_refl _)] at hm5 hw5
          exact ⟨_, _, _, _, rfl, len2, s5, hm5, hw5, df2⟩
end
end SG

namespace SG
open PySem PySem.Spec PyProof.Rows L2
section
variable {P : Program} {w : World} {K : PySem.W.Frag} {mg : Str → Option Value} {base : Heap}
/-- one answer for each of some data -/
theorem lc_bits {b : Addr} {xs : List V} {ds : List PyData} {te : TE} {s : Nat} {σ : L2.St} {H1 : Hp} {D : Addr} {Qd : Hp → Prop} (hS : SqT K H1 b xs) (ha : DxAll K H1 xs ds) (hn : ds.length ≤ 1000) (hD : H1 D = none) (g : PyData → Bool)
    (turn : ∀ (x : V) (E : PyData) (H2 : Hp), E ∈ ds → Same H1 H2 → Dx K H2 x E → ∀ R : VK, (∀ H3, Same H2 H3 → R (.bl (g E)) H3) → te ((wipe σ [s]).set s (some x)) H2 R)
    (done : ∀ (H2 : Hp), Same H1 H2 → H2 D = some (.lst ((ds.map g).map V.bl)) → Qd H2) :
    ∃ W : Nat → Nat → Hp → Prop, (∃ m, W 0 m (upd H1 D (.lst []))) ∧ ∀ i m H, W i m H →
      ((Itt K b).stop i H ∧ Qd H) ∨ ((Itt K b).go i H ∧ ∃ Nx : Hp → Prop, (∀ H', Nx H' → ∃ m', m' < m ∧ W (i + 1) m' H') ∧ ∀ x H', (Itt K b).yld i H x H' → gName s x (wipe σ [s]) H' fun σ2 H2 => wipe σ2 [s] = wipe σ [s] ∧ tYes σ2 H2 fun b H3 =>
        if b = true then te σ2 H3 fun y H4 => ∃ acc, H4 D = some (.lst acc) ∧ acc.length < sizeLine ∧ Nx (upd H4 D (.lst (acc ++ [y]))) else Nx H3) := by
  have lx := dxA_len ha
  refine lc_same (walk_tup (K := K) (a := b) (xs := xs)) (by omega) hD (fun i acc _ => acc = ((ds.take i).map g).map V.bl) rfl (fun _ _ _ _ _ h => h) (fun H5 s5 => sameT s5 hS) ?_ ?_
  · rintro i x acc H5 H6 hi s5 rfl ⟨rfl, hx⟩ R N hR hN
    obtain ⟨E, h1, h2⟩ := dxA_get (dxA_same s5 ha) hx
    refine ⟨wipe1 _ _ _, ?_⟩
    refine yesI (A := fun H7 => _) ?_
    refine turn x E _ (List.mem_of_getElem? h1) s5 h2 _ fun H3 s3 => hR _ _ s3 ?_
    rw [List.take_add_one, h1, List.map_append, List.map_append]
    rfl
  · rintro acc H5 s5 hl hD1 rfl
    rw [lx, List.take_of_length_le (Nat.le_refl _)] at hD1
    exact done H5 s5 hD1
def spIsNode (K : PySem.W.Frag) : Sp := fun vs H Q _ => ∃ (m : Int) (x : V) (D : PyData) (n : Nat), vs = [.int m, x, .int (n : Nat)] ∧ Dx K H x D ∧ (∀ ds, D = .tuple ds → ds.length ≤ 1000) ∧ ∀ H2, Same H H2 → Q (.bl (nodeOk m n D)) H2
theorem ok_is_node {f f1 f2 : Addr} {fd fd1 fd2 : FuncData} (F : Fun K "is_node" "is_node" s_is_node f fd) (F_is_tuple_of : Fun K "is_tuple_of" "is_tuple_of" s_is_tuple_of f1 fd1) (m_is_tuple_of : mg "is_tuple_of" = some (.ref f1)) (b_is_tuple_of : Binds K fd1 ["thing", "many"] [])
    (F_is_integer : Fun K "is_integer" "is_integer" s_is_integer f2 fd2) (m_is_integer : mg "is_integer" = some (.ref f2)) (b_is_integer : Binds K fd2 ["thing"] []) (T : Txt mg) : GFn P w K mg base CX0 2 f fd ["many", "thing", "size"] (spIsNode K) := by
  have G_is_tuple_of : GFn P w K mg base CX0 1 f1 fd1 ["thing", "many"] (spTupOf K) := ok_tuple_of F_is_tuple_of T
  have G_is_integer : GFn P w K mg base CX0 1 f2 fd2 ["thing"] (spIsInt K) := ok_is_integer F_is_integer T
  refine gfun_ok F sc_is_node (fun vs H Q E h => ?_) (fun cdv A outer s H vs Q E hgu hr h => ?_)
  · obtain ⟨m, x, D, n, rfl, _⟩ := h
    rfl
  · obtain ⟨m, x, D, n, rfl, hd, few, q⟩ := h
    have nd := sc_is_node.nd
    refine ⟨_, (pss_one (ps_ret (pe_and (pe_g G_is_tuple_of hgu (hr.mono (by decide)) (by rfl) m_is_tuple_of F_is_tuple_of.kp b_is_tuple_of .nil pass0 (pa_cons (pv 1) (pa_cons pe_int pa_nil))) (pe_one (pe_callB (k_all (K := K) rfl) (by rfl) T.all (by decide +kernel) (pa_cons (pe_lc (own := [("place", 3)]) rfl nd (pi_tup (pv 1)) (blkOk_by (N := N_is_node) (sc := defScope s_is_node) (by decide +kernel)) (fun _ _ _ _ _ => (pg_name (i := 3) nd rfl (Or.inl rfl))) (fun _ _ _ _ _ => pts_nil) (fun _ _ _ _ _ => (pe_and (pe_g G_is_integer hgu (hr.mono (by decide)) (by rfl) m_is_integer F_is_integer.kp b_is_integer .nil pass0 (pa_cons (pv 3) pa_nil)) (pe_one (pe_chain op_le op_lt (pe_un un_neg (pv 0)) (pv 3) (pv 2)))))) pa_nil)))))), ?_⟩
    refine ⟨_, rfl, x, D, 2, rfl, hd, fun e => ⟨_, rfl, ?_⟩, fun ds e => ?_⟩
    · refine ifF (by rfl) ?_
      have z := q H (Same.refl _)
      have e2 : nodeOk m n D = false := by cases D <;> first | rfl | cases e
      rw [e2] at z
      exact z
    · subst e
      by_cases e3 : ds.length = 2
      case neg =>
        have : ¬ ((ds.length : Int) = 2) := by omega
        refine ⟨_, rfl, ifF (decide_eq_false this) ?_⟩
        have z := q H (Same.refl _)
        have e2 : nodeOk m n (.tuple ds) = false := by simp [nodeOk, e3]
        rw [e2] at z
        exact z
      refine ⟨_, rfl, ifT (decide_eq_true (by omega)) ?_⟩
      obtain ⟨p, xs, rfl, hp, ha⟩ := dx_tuple hd
      refine ⟨_, rfl, p, rfl, ⟨_, hp⟩, fun D1 nD1 => ?_⟩
      refine lc_bits hp ha (by omega) nD1 (sideOk m n) (fun y E H2 hE s2 h2 R hR => ?_) (fun H2 s2 hD2 => ?_)
      · refine ⟨_, rfl, y, E, rfl, h2, _, rfl, ?_⟩
        have z := hR H2 (Same.refl _)
        cases e1 : isInt E with
        | false =>
          refine ifF (by rfl) ?_
          have : sideOk m n E = false := by cases E <;> first | rfl | cases e1
          rw [this] at z
          exact z
        | true =>
          obtain ⟨sd, rfl⟩ : ∃ sd, E = .int sd := by cases E <;> first | exact ⟨_, rfl⟩ | cases e1
          cases h2
          refine ifT (by rfl) ⟨_, rfl, _, rfl, _, rfl, _, _, rfl, rfl, _, rfl, ?_⟩
          have z : R (.bl (decide (-m ≤ sd) && decide (sd < (n : Int)))) H2 := z
          by_cases c1 : -m ≤ sd
          · rw [decide_eq_true c1, Bool.true_and] at z
            exact ifT (decide_eq_true c1) ⟨_, rfl, _, _, rfl, rfl, z⟩
          · rw [decide_eq_false c1, Bool.false_and] at z
            exact ifF (decide_eq_false c1) z
      · refine ⟨D1, _, rfl, SqL.of hD2, ?_⟩
        have z := q H2 s2
        have e2 : nodeOk m n (.tuple ds) = (ds.map (sideOk m n)).all id := by
          show (decide (ds.length = 2) && ds.all (sideOk m n)) = _
          rw [decide_eq_true e3, Bool.true_and, List.all_map]
          rfl
        rw [e2] at z
        exact z
theorem ok_is_tree {f f1 f2 f3 f4 f5 : Addr} {fd fd1 fd2 fd3 fd4 fd5 : FuncData} (F : Fun K "is_tree" "is_tree" s_is_tree f fd) (F_is_tuple_of : Fun K "is_tuple_of" "is_tuple_of" s_is_tuple_of f1 fd1) (m_is_tuple_of : mg "is_tuple_of" = some (.ref f1)) (b_is_tuple_of : Binds K fd1 ["thing", "many"] [])
    (F_is_integer : Fun K "is_integer" "is_integer" s_is_integer f2 fd2) (m_is_integer : mg "is_integer" = some (.ref f2)) (b_is_integer : Binds K fd2 ["thing"] []) (F_is_node : Fun K "is_node" "is_node" s_is_node f3 fd3) (m_is_node : mg "is_node" = some (.ref f3)) (b_is_node : Binds K fd3 ["many", "thing", "size"] [])
    (F_reached : Fun K "reached" "reached" s_reached f4 fd4) (m_reached : mg "reached" = some (.ref f4)) (b_reached : Binds K fd4 ["starts", "table"] []) (F_onward_nodes : Fun K "onward_nodes" "onward_nodes" s_onward_nodes f5 fd5) (m_onward_nodes : mg "onward_nodes" = some (.ref f5)) (b_onward_nodes : Binds K fd5 ["tree"] []) (T : Txt mg) :
    GFn P w K mg base CX0 3 f fd ["many", "thing"] (spIsTree K) := by
  have G_is_node : GFn P w K mg base CX0 2 f3 fd3 ["many", "thing", "size"] (spIsNode K) := ok_is_node F_is_node F_is_tuple_of m_is_tuple_of b_is_tuple_of F_is_integer m_is_integer b_is_integer T
  have G_reached : GFn P w K mg base CX0 1 f4 fd4 ["starts", "table"] (spReached K) := ok_reached F_reached T
  have G_onward_nodes : GFn P w K mg base CX0 1 f5 fd5 ["tree"] (spOnward K) := ok_onward F_onward_nodes T
  refine gfun_ok F sc_is_tree (fun vs H Q E h => ?_) (fun cdv A outer s H vs Q E hgu hr h => ?_)
  · obtain ⟨m, x, D, rfl, _⟩ := h
    rfl
  · obtain ⟨m, x, D, rfl, hd, m0, bd, q⟩ := h
    have nd := sc_is_tree.nd
    refine ⟨_, (pss_cons (ps_if (PW.pt (pw_or (pt_not (pt_val (pe_callB (k_isi (K := K)) (by rfl) T.isinstance (by decide +kernel) (pa_cons (pv 1) (pa_cons (pe_bltn (v := .ty "tuple") (by rfl) T.tuple (by decide +kernel) rfl) pa_nil))))) (pw_or1 (pt_not (pt_val (pe_callB (k_all (K := K) rfl) (by rfl) T.all (by decide +kernel) (pa_cons (pe_lc (own := [("node", 2)]) rfl nd (pi_tup (pv 1)) (blkOk_by (N := N_is_tree) (sc := defScope s_is_tree) (by decide +kernel)) (fun _ _ _ _ _ => (pg_name (i := 2) nd rfl (Or.inl rfl))) (fun _ _ _ _ _ => pts_nil) (fun _ _ _ _ _ => (pe_g G_is_node hgu (hr.mono (by decide)) (by rfl) m_is_node F_is_node.kp b_is_node .nil pass0 (pa_cons (pv 0) (pa_cons (pv 2) (pa_cons (pe_callB (k_len (K := K)) (by rfl) T.len (by decide +kernel) (pa_cons (pv 1) pa_nil)) pa_nil)))))) pa_nil))))))) (pss_one (ps_ret pe_bl)) pss_nil)
      (pss_cons (ps_if (pt_not (pt_truth (pv 1) (by intro _; rfl))) (pss_one (ps_ret (pe_cmpR op_eq (pv 0) pe_int (nomark _)))) pss_nil)
      (pss_one (ps_ret (pe_cmpR op_eq (pe_callB call_lenD (by rfl) T.len (by decide +kernel) (pa_cons (pe_g G_reached hgu (hr.mono (by decide)) (by rfl) m_reached F_reached.kp b_reached .nil pass0 (pa_cons (pe_lst (pa_cons pe_int pa_nil)) (pa_cons (pe_g G_onward_nodes hgu (hr.mono (by decide)) (by rfl) m_onward_nodes F_onward_nodes.kp b_onward_nodes .nil pass0 (pa_cons (pv 1) pa_nil)) pa_nil))) pa_nil)) (pe_callB (k_len (K := K)) (by rfl) T.len (by decide +kernel) (pa_cons (pv 1) pa_nil)) (nomark _)))))), ?_⟩
    have no : ∀ H3, Same H H3 → ¬ TreeP m D → Q (.bl false) H3 := fun H3 s3 h => by
      have z := q H3 s3
      rw [tree_no h] at z
      exact z
    refine ⟨_, rfl, _, _, _, _, _, rfl, .ty "tuple", dx_ty hd, isx_tuple D, _, rfl, ?_⟩
    cases et : isTup D with
    | false =>
      refine ifT (by rfl) (no H (Same.refl _) ?_)
      cases D <;> first | exact id | cases et
    | true =>
    obtain ⟨ds, rfl⟩ : ∃ ds, D = .tuple ds := by cases D <;> simp [isTup] at et ⊢
    obtain ⟨p, xs, rfl, hp, ha⟩ := dx_tuple hd
    have lx := dxA_len ha
    have bd2 : PyData.bulkAll ds ≤ 800 := by simpa only [PyData.bulk] using bd
    have lb := bulkA_len ds
    have few : ∀ {E : PyData}, E ∈ ds → ∀ es, E = .tuple es → es.length ≤ 1000 := by
      intro E hE es e2
      have b1 := bulkA_mem hE
      rw [e2] at b1
      simp only [PyData.bulk] at b1
      have b2 := bulkA_len es
      omega
    refine ifF (by rfl) ⟨_, rfl, p, rfl, ⟨_, hp⟩, fun D1 nD1 => ?_⟩
    refine lc_bits hp ha (by omega) nD1 (nodeOk m ds.length) (fun y E H2 hE s2 h2 R hR => ?_) (fun H2 s2 hD2 => ?_)
    · refine ⟨_, rfl, _, rfl, _, rfl, p, _, rfl, .inr (sameT s2 hp), m, y, E, ds.length, by rw [← lx]; rfl, h2, few hE, fun H3 s3 => hR _ s3⟩
    · refine ⟨D1, _, rfl, SqL.of hD2, _, rfl, ?_⟩
      have e2 : ((ds.map (nodeOk m ds.length)).all id) = ds.all (nodeOk m ds.length) := by
        rw [List.all_map]
        rfl
      rw [e2]
      have hp2 := sameT s2 hp
      cases eall : ds.all (nodeOk m ds.length) with
      | false =>
        by_cases l0 : ds.length = 0
        · rw [List.eq_nil_of_length_eq_zero l0] at eall
          cases eall
        · refine ifT (by rfl) (no H2 s2 (fun z => ?_))
          rw [((tree_tup l0).mp z).1] at eall
          cases eall
      | true =>
        refine ifF (by rfl) ⟨_, rfl, !xs.isEmpty, .inr (.inl ⟨xs, hp2, rfl⟩), ?_⟩
        by_cases l0 : ds.length = 0
        · have ex : xs = [] := List.eq_nil_of_length_eq_zero (by omega)
          rw [ex]
          refine ifT (by rfl) ⟨_, rfl, rfl, ?_⟩
          have z := q H2 s2
          have e : isTreeD m (.tuple ds) = (m == 1) := tree_is (by
            rw [List.eq_nil_of_length_eq_zero l0]
            simp [TreeP])
          rw [e] at z
          rw [dec_int]
          exact z
        · have ex : xs.isEmpty = false := by
            cases xs with
            | nil => exact absurd lx (fun z => l0 (by simpa using z.symm))
            | cons _ _ => rfl
          rw [ex]
          refine ifF (by rfl) ?_
          have tr := nodes_good eall l0
          have na := nodes_at (dxA_same s2 ha) eall
          refine ⟨by show 1 ≤ sizeLine; decide, fun ps nps => ?_⟩
          have s3 : Same H2 (upd H2 ps (.lst ([(0 : Int)].map V.int))) := same_new nps
          have h3 : upd H2 ps (.lst ([(0 : Int)].map V.int)) ps = some (.lst ([(0 : Int)].map V.int)) := upd_same
          have e3 : upd H2 ps (.lst [.int 0]) = upd H2 ps (.lst ([(0 : Int)].map V.int)) := rfl
          rw [e3]
          generalize upd H2 ps (.lst ([(0 : Int)].map V.int)) = H3 at s3 h3 ⊢
          refine ⟨_, rfl, p, xs, ds.map pairOf, rfl, sameT s3 hp2, na.keep fun _ _ h => sameT s3 h, by rw [List.length_map]; omega, fun a ls H4 s4 h4 pa => ?_⟩
          refine ⟨ps, a, ls, ds.map pairOf, rfl, s4 _ _ h3, h4, pa, tr.good, by rw [List.length_map]; omega, fun mm o H5 s5 h5 mt => ?_⟩
          have s25 := s3.trans (s4.trans s5)
          refine ⟨mm, _, rfl, h5, _, rfl, p, _, rfl, .inr (sameT s25 hp2), rfl, ?_⟩
          have z := q H5 (s2.trans s25)
          have e : isTreeD m (.tuple ds) = (((metK o).length : Int) == (xs.length : Int)) := tree_is (by
            rw [tree_tup l0, beq_iff_eq, lx]
            have lm : (metK o).length = o.length := by unfold metK; rw [List.length_map]
            rw [lm]
            constructor
            · rintro ⟨_, h⟩
              rw [h o mt]
            · intro h
              refine ⟨eall, fun o2 m2 => ?_⟩
              rw [m2.len_eq mt]
              omega)
          rw [e] at z
          rw [dec_int]
          exact z
end
end SG

namespace SG
open PySem PySem.Spec PyProof.Rows L2
def iEnumS0 (ta : TA) : TI := fun σ Hx R => ta σ Hx fun vs H1 => ∃ (x : Str), vs = [.str x] ∧ R (IteS x 0) H1
theorem pi_enumS0 {X : Cx} {e : Expr} {ta : TA} {p pos tpos : Pos} {elts : List Expr} {kk : Nat} (hg : Gl X "enumerate") (hm : X.mg "enumerate" = none) (ha : PA X [e] ta) (hs : starEach [e] X.env = [(false, eval e X.env)] := by rfl) :
    PI X (.Tuple elts kk tpos) (.Call (.Name "enumerate" p) [e] [] pos) (iEnumS0 ta) := by
  refine ⟨fun pins st σ Hx R I h => ?_⟩
  refine Call_ (ld_blt I hg hm boot_enumerate (PyProof.Rows.callWith_type1 (thn (ha.run pos pins st σ Hx _ I h) ?_) hs rfl))
  rintro us s1 ⟨vs, H1, I1, r1, x, rfl, q⟩
  obtain ⟨t, rfl⟩ : ∃ t, us = [.str x t] := by
    cases r1 with
    | cons x y => cases y; obtain ⟨t, rfl⟩ := x; exact ⟨_, rfl⟩
  refine enum1_begins (begins_text x t) trivial fun h2 he hit hsz hkp => wpAny_pyIter_enum he ?_
  have I2 : L2.Inv X pins σ H1 { s1 with heap := h2 } := I1.kept (t' := s1.toks) hkp
  refine ⟨s1.heap.objs.size + 1, [s1.heap.objs.size + 1, s1.heap.objs.size], _, _, H1, rfl, I2, turn_enumS x t 0 (s1.heap.objs.size + 1) s1.heap.objs.size,
    ⟨⟨.none, he⟩, ⟨_, hit, rfl, rfl⟩, Nat.succ_ne_self _⟩, fun b hb => ?_, q⟩
  have hle : s1.heap.objs.size ≤ b := by
    rcases (show b = s1.heap.objs.size + 1 ∨ b = s1.heap.objs.size by simpa using hb) with z | z
    · rw [z]; exact Nat.le_succ _
    · rw [z]; exact Nat.le_refl _
  exact I1.fpOk hle (I1.hok.fresh hle)
end SG

namespace SG
open PySem PySem.Spec PyProof.Rows L2
open SX (S)
section
variable {P : Program} {w : World} {K : PySem.W.Frag} {mg : Str → Option Value} {base : Heap}
def sideW (T : List (Int × Int)) (a : Int) (g : Nat) : Int := if g = 49 then (nodeT T a).2 else (nodeT T a).1
/-- where tosses lead from a node, so many having been used -/
def goV (T : List (Int × Int)) (a : Int) (u : Nat) : List Nat → List V
  | [] => [.str "at", .int a]
  | g :: r => if sideW T a g < 0 then [.str "drawn", .int (-1 - sideW T a g), .int ((u + 1 : Nat) : Int)] else goV T (sideW T a g) (u + 1) r
def spDueW (K : PySem.W.Frag) : Sp := fun vs H Q _ => ∃ (m : Int) (p : Addr) (xs : List V) (T : List (Int × Int)) (gs : List Nat), vs = [.ref p, .str (S gs)] ∧ SqT K H p xs ∧ NdAt K H xs T ∧ TreeT m T ∧ (∀ g ∈ gs, isBit g) ∧ gs.length ≤ 400 ∧
  ∀ (r : Addr) (H2 : Hp), Same H H2 → SqT K H2 r (goV T 0 0 gs) → Q (.ref r) H2
def spWalked (K : PySem.W.Frag) : Sp := fun vs H Q _ => ∃ (m : Int) (p : Addr) (xs : List V) (T : List (Int × Int)) (gs : List Nat), vs = [.int m, .ref p, .str (S gs)] ∧ SqT K H p xs ∧ NdAt K H xs T ∧ TreeT m T ∧ (∀ g ∈ gs, isBit g) ∧ gs.length ≤ 400 ∧
  ∀ (r : Addr) (H2 : Hp), Same H H2 → SqT K H2 r (goV T 0 0 gs) → Q (.ref r) H2
theorem tree_ix {H : Hp} {p : Addr} {xs : List V} {T : List (Int × Int)} (hp : SqT K H p xs) (na : NdAt K H xs T) {k : Int} (h0 : 0 ≤ k) (h1 : k < T.length) {Q : VK} (q : ∀ a, SqT K H a [.int (nodeT T k).1, .int (nodeT T k).2] → Q (.ref a) H) : rIxT K (.ref p) (.int k) H Q := by
  obtain ⟨x, a, e1, rfl, e3⟩ := na.at (nodeT_at h0 h1)
  exact ⟨p, xs, k.toNat, _, rfl, by rw [← int_nat h0], hp, atI_nat e1, q a e3⟩
theorem side_ok {m : Int} {T : List (Int × Int)} (h : TreeT m T) {a : Int} (h0 : 0 ≤ a) (h1 : a < T.length) (g : Nat) : OkS m T.length (sideW T a g) := by
  have z := h.2 _ (nodeT_mem h0 h1)
  unfold sideW
  split
  · exact z.2
  · exact z.1
theorem S_at {gs : List Nat} {i c : Nat} (h : (S gs).cps[i]? = some c) : gs[i]? = some c := by
  have e : (S gs).cps = gs.toArray := rfl
  rw [e] at h
  simpa using h
theorem S_size (gs : List Nat) : (S gs).cps.size = gs.length := by
  have e : (S gs).cps = gs.toArray := rfl
  rw [e]
  simp
theorem ok_due {f : Addr} {fd : FuncData} (F : Fun K "_law_due" "_law_due" s__law_due f fd) (T : Txt mg) : GFn P w K mg base CX0 1 f fd ["_law_nodes", "_law_flips"] (spDueW K) := by
  refine gfun_ok F sc__law_due (fun vs H Q E h => ?_) (fun cdv A outer s H vs Q E hgu hr h => ?_)
  · obtain ⟨m, p, xs, T2, gs, rfl, _⟩ := h
    rfl
  · obtain ⟨m, p, xs, T2, gs, rfl, hp, na, tr, bits, gl, q⟩ := h
    have nd := sc__law_due.nd
    refine ⟨_, (pss_cons (ps_set (i := 2) nd rfl (Or.inl rfl) pe_int)
      (pss_cons (ps_for PassesOwn.never rfl (pi_enumS0 (by rfl) T.enumerate (pa_cons (pv 1) pa_nil)) (k_tg (K := K) (n := 2) rfl (pgs_cons (pg_name (i := 3) nd rfl (Or.inl rfl)) (pgs_cons (pg_name (i := 4) nd rfl (Or.inl rfl)) pgs_nil)))
        (pss_cons (ps_set (i := 2) nd rfl (Or.inl rfl) (pe_ix (k_ixT (K := K)) (pe_ix (k_ixT (K := K)) (pv 0) (pv 2) (fun _ _ => rfl)) (pe_callTy call_int_str (by rfl) T.int (by decide +kernel) (pa_cons (pv 4) pa_nil)) (fun _ _ => rfl)))
      (pss_one (ps_if (pt_cmpR op_lt (pv 2) pe_int (nomark _)) (pss_one (ps_ret (pe_tup (pa_cons pe_str (pa_cons (pe_op op_sub (pe_un un_neg pe_int) (pv 2)) (pa_cons (pe_op op_add (pv 3) pe_int) pa_nil)))))) pss_nil))))
      (pss_one (ps_ret (pe_tup (pa_cons pe_str (pa_cons (pv 2) pa_nil))))))), ?_⟩
    have t1 := tr.1
    refine ⟨_, rfl, S gs, rfl, for_it walk_enumS (fun i σ HI => ∃ (a : Int) (y3 y4 : Option V), σ = [some (.ref p), some (.str (S gs)), some (.int a), y3, y4] ∧ Same H HI ∧ 0 ≤ a ∧ a < T2.length ∧ goV T2 a i (gs.drop i) = goV T2 0 0 gs) ⟨0, _, _, rfl, Same.refl _, by omega, by omega, rfl⟩ (fun _ _ _ _ _ => trivial) ?_ ?_⟩
    · rintro i v σ HI HJ hi ⟨a, y3, y4, rfl, sI, a0, a1, run⟩ ⟨T9, c, rfl, n9, hc, rfl⟩
      have hg := S_at hc
      have hid : i < gs.length := (List.getElem?_eq_some_iff.mp hg).1
      have edrop : gs.drop i = c :: gs.drop (i + 1) := by
        rw [List.drop_eq_getElem_cons hid]
        rw [List.getElem?_eq_getElem hid] at hg
        rw [Option.some.inj hg]
      rw [edrop] at run
      have s9 : Same HI (upd HI T9 (.tup [.int ((0 + i : Nat) : Int), .str ⟨#[c]⟩])) := same_new n9
      have sJ := sI.trans s9
      refine ⟨T9, _, rfl, .inl (.inl upd_same), rfl, _, _, rfl, _, _, rfl, rfl, ?_⟩
      generalize upd HI T9 (.tup [.int ((0 + i : Nat) : Int), .str ⟨#[c]⟩]) = HJ at sJ ⊢
      refine ⟨_, rfl, _, rfl, tree_ix (sameT sJ hp) (na.keep fun _ _ h => sameT sJ h) a0 a1 fun an han => ?_⟩
      have so := side_ok tr a0 a1 c
      have bit : ∃ n : Nat, PySem.intText? ⟨#[c]⟩ = some (n : Int) ∧ ([V.int (nodeT T2 a).1, V.int (nodeT T2 a).2] : List V)[n]? = some (.int (sideW T2 a c)) := by
        rcases bits c (List.mem_of_getElem? hg) with rfl | rfl
        · exact ⟨0, by decide +kernel, rfl⟩
        · exact ⟨1, by decide +kernel, rfl⟩
      obtain ⟨n, hn1, hn2⟩ := bit
      refine ⟨_, rfl, _, _, rfl, hn1, by show 1 ≤ 640; decide, an, _, n, _, rfl, rfl, han, atI_nat hn2, ?_⟩
      refine ⟨_, rfl, _, _, rfl, rfl, _, rfl, ite2 (fun h => ?_) (fun h => ?_)⟩
      · have h := of_decide_eq_true h
        refine ⟨1, rfl, _, rfl, _, _, rfl, rfl, _, rfl, _, _, rfl, rfl, by show 3 ≤ sizeLine; decide, fun r nr => ?_⟩
        refine q r _ (sJ.trans (same_new nr)) (.inl (.inl ?_))
        rw [upd_same, ← run]
        show _ = some (HO.tup (if sideW T2 a c < 0 then _ else _))
        rw [if_pos h]
        show some (HO.tup [V.str (Str.ofString "drawn"), V.int (-1 - sideW T2 a c), V.int (((0 + i : Nat) : Int) + 1)]) = _
        rw [show ((0 + i : Nat) : Int) + 1 = ((i + 1 : Nat) : Int) by omega]
      · have h : ¬ sideW T2 a c < 0 := fun z => h (decide_eq_true z)
        refine ⟨sideW T2 a c, _, _, rfl, sJ, by omega, so.2, ?_⟩
        rw [← run]
        show _ = (if sideW T2 a c < 0 then _ else goV T2 (sideW T2 a c) (i + 1) (gs.drop (i + 1)))
        rw [if_neg h]
    · rintro σ HI ⟨a, y3, y4, rfl, sI, a0, a1, run⟩
      refine ⟨_, rfl, by show 2 ≤ sizeLine; decide, fun r nr => q r _ (sI.trans (same_new nr)) (.inl (.inl ?_))⟩
      rw [upd_same, ← run, List.drop_eq_nil_of_le (by rw [S_size]; exact Nat.le_refl _)]
      rfl
theorem ok_walked {f : Addr} {fd : FuncData} (F : Fun K "walked" "walked" s_walked f fd) (T : Txt mg) : GFn P w K mg base CX0 1 f fd ["many", "tree", "tosses"] (spWalked K) := by
  refine gfun_ok F sc_walked (fun vs H Q E h => ?_) (fun cdv A outer s H vs Q E hgu hr h => ?_)
  · obtain ⟨m, p, xs, T2, gs, rfl, _⟩ := h
    rfl
  · obtain ⟨m, p, xs, T2, gs, rfl, hp, na, tr, bits, gl, q⟩ := h
    have nd := sc_walked.nd
    refine ⟨_, (pss_cons (ps_if (pt_not (pt_truth (pv 1) (by intro _; rfl))) (pss_one (ps_ret (pe_tup (pa_cons pe_str (pa_cons pe_int (pa_cons pe_int pa_nil)))))) pss_nil)
      (pss_cons (ps_set (i := 3) nd rfl (Or.inl rfl) pe_int)
      (pss_cons (ps_for PassesOwn.never rfl (pi_enumS (by rfl) T.enumerate (pa_cons (pv 2) pa_nil) (pk_cons pe_int pk_nil)) (k_tg (K := K) (n := 2) rfl (pgs_cons (pg_name (i := 4) nd rfl (Or.inl rfl)) (pgs_cons (pg_name (i := 5) nd rfl (Or.inl rfl)) pgs_nil)))
        (pss_cons (ps_set (i := 3) nd rfl (Or.inl rfl) (pe_ix (k_ixT (K := K)) (pe_ix (k_ixT (K := K)) (pv 1) (pv 3) (fun _ _ => rfl)) (pe_ifExp (pt_cmpR op_eq (pv 5) pe_str (nomark _)) pe_int pe_int) (fun _ _ => rfl)))
      (pss_one (ps_if (pt_cmpR op_lt (pv 3) pe_int (nomark _)) (pss_one (ps_ret (pe_tup (pa_cons pe_str (pa_cons (pe_op op_sub (pe_un un_neg pe_int) (pv 3)) (pa_cons (pv 4) pa_nil)))))) pss_nil))))
      (pss_one (ps_ret (pe_tup (pa_cons pe_str (pa_cons (pv 3) pa_nil)))))))), ?_⟩
    have t1 := tr.1
    have lx := na.len
    have ex : xs.isEmpty = false := by
      cases xs with
      | nil => exact absurd lx (fun z => by simp at z; omega)
      | cons _ _ => rfl
    refine ⟨_, rfl, !xs.isEmpty, .inr (.inl ⟨xs, hp, rfl⟩), ?_⟩
    rw [ex]
    refine ifF (by rfl) ?_
    refine ⟨_, rfl, S gs, 1, rfl, rfl, by decide, for_it walk_enumS (fun i σ HI => ∃ (a : Int) (y3 y4 : Option V), σ = [some (.int m), some (.ref p), some (.str (S gs)), some (.int a), y3, y4] ∧ Same H HI ∧ 0 ≤ a ∧ a < T2.length ∧ goV T2 a i (gs.drop i) = goV T2 0 0 gs) ⟨0, _, _, rfl, Same.refl _, by omega, by omega, rfl⟩ (fun _ _ _ _ _ => trivial) ?_ ?_⟩
    · rintro i v σ HI HJ hi ⟨a, y3, y4, rfl, sI, a0, a1, run⟩ ⟨T9, c, rfl, n9, hc, rfl⟩
      have hg := S_at hc
      have hid : i < gs.length := (List.getElem?_eq_some_iff.mp hg).1
      have edrop : gs.drop i = c :: gs.drop (i + 1) := by
        rw [List.drop_eq_getElem_cons hid]
        rw [List.getElem?_eq_getElem hid] at hg
        rw [Option.some.inj hg]
      rw [edrop] at run
      have s9 : Same HI (upd HI T9 (.tup [.int ((1 + i : Nat) : Int), .str ⟨#[c]⟩])) := same_new n9
      have sJ := sI.trans s9
      refine ⟨T9, _, rfl, .inl (.inl upd_same), rfl, _, _, rfl, _, _, rfl, rfl, ?_⟩
      generalize upd HI T9 (.tup [.int ((1 + i : Nat) : Int), .str ⟨#[c]⟩]) = HJ at sJ ⊢
      refine ⟨_, rfl, _, rfl, tree_ix (sameT sJ hp) (na.keep fun _ _ h => sameT sJ h) a0 a1 fun an han => ?_⟩
      have so := side_ok tr a0 a1 c
      have fin : ∀ n : Nat, ([V.int (nodeT T2 a).1, V.int (nodeT T2 a).2] : List V)[n]? = some (.int (sideW T2 a c)) → True := fun _ _ => trivial
      refine ⟨_, rfl, rfl, _, rfl, ?_⟩
      refine if_two (Pz := fun x H6 => ∃ n : Nat, x = .int (n : Nat) ∧ H6 = HJ ∧ ([V.int (nodeT T2 a).1, V.int (nodeT T2 a).2] : List V)[n]? = some (.int (sideW T2 a c))) ?_ (fun h kk => kk _ _ ⟨1, rfl, rfl, ?_⟩) (fun h kk => kk _ _ ⟨0, rfl, rfl, ?_⟩)
      · rintro x H6 ⟨n, rfl, rfl, hn2⟩
        refine ⟨an, _, n, _, rfl, rfl, han, atI_nat hn2, ?_⟩
        refine ⟨_, rfl, _, _, rfl, rfl, _, rfl, ite2 (fun h => ?_) (fun h => ?_)⟩
        · have h := of_decide_eq_true h
          refine ⟨1, rfl, _, rfl, _, _, rfl, rfl, _, rfl, by show 3 ≤ sizeLine; decide, fun r nr => ?_⟩
          refine q r _ (sJ.trans (same_new nr)) (.inl (.inl ?_))
          rw [upd_same, ← run]
          show _ = some (HO.tup (if sideW T2 a c < 0 then _ else _))
          rw [if_pos h, show ((1 + i : Nat) : Int) = ((i + 1 : Nat) : Int) by omega]
        · have h : ¬ sideW T2 a c < 0 := fun z => h (decide_eq_true z)
          refine ⟨sideW T2 a c, _, _, rfl, sJ, by omega, so.2, ?_⟩
          rw [← run]
          show _ = (if sideW T2 a c < 0 then _ else goV T2 (sideW T2 a c) (i + 1) (gs.drop (i + 1)))
          rw [if_neg h]
      · rcases bits c (List.mem_of_getElem? hg) with rfl | rfl
        · exact absurd h (by decide +kernel)
        · rfl
      · rcases bits c (List.mem_of_getElem? hg) with rfl | rfl
        · rfl
        · exact absurd h (by decide +kernel)
    · rintro σ HI ⟨a, y3, y4, rfl, sI, a0, a1, run⟩
      refine ⟨_, rfl, by show 2 ≤ sizeLine; decide, fun r nr => q r _ (sI.trans (same_new nr)) (.inl (.inl ?_))⟩
      rw [upd_same, ← run, List.drop_eq_nil_of_le (by rw [S_size]; exact Nat.le_refl _)]
      rfl
end
end SG

namespace SG
open PySem PySem.Spec PyProof.Rows L2
theorem get_list {X : Cx} {K : PySem.W.Frag} (eK : X.K = K := by rfl) : PGet X (rIxL K) := by
  subst eK
  intro pins s σ H x y v u Q I rx ry h
  obtain ⟨p, xs, i, z, rfl, rfl, hq, he, q⟩ := h
  cases rx
  obtain ⟨t, rfl⟩ := ry
  obtain ⟨its, r, pl, hz⟩ := I.list hq
  obtain ⟨j, h1, h2, h3, h4, h5⟩ := atI_get he
  obtain ⟨w, ew, rw'⟩ := r.get h2
  have hl := r.length
  have hn := line63
  have fin : EP X pins σ Q w s := ⟨z, H, I, rw', q⟩
  by_cases h0 : 0 ≤ i
  · have hj : i.toNat = j := by
      rw [seqIndex_of h0 h5] at h1
      exact Option.some.inj h1
    exact wpAny_getItem_list (Q := EP X pins σ Q) pl.isList h0 (by omega) (by rw [hj]; simpa using ew) fin
  · have hj : (i + (its.toArray.size : Int)).toNat = j := by
      rw [seqIndex_neg (by omega) h4] at h1
      rw [List.size_toArray, ← hl]
      exact Option.some.inj h1
    exact wpAny_getItem_list_neg (Q := EP X pins σ Q) pl.isList (by omega) (by rw [List.size_toArray] <;> omega) (by omega) (by rw [hj]; simpa using ew) fin
end SG

namespace SG
open PySem PySem.Spec PyProof.Rows L2
def rgN (n : Nat) : List Int := (List.range n).map fun (k : Nat) => (k : Int)
theorem rgN_mem {n : Nat} {k : Int} : k ∈ rgN n ↔ 0 ≤ k ∧ k < n := by
  unfold rgN
  rw [List.mem_map]
  constructor
  · rintro ⟨j, hj, rfl⟩
    have := List.mem_range.mp hj
    omega
  · rintro ⟨h0, h1⟩
    exact ⟨k.toNat, List.mem_range.mpr (by omega), by omega⟩
theorem rgN_nd (n : Nat) : (rgN n).Nodup := List.Pairwise.map _ (fun (a b : Nat) (h : a ≠ b) (q : (a : Int) = (b : Int)) => h (by omega)) List.nodup_range
theorem rgN_len (n : Nat) : (rgN n).length = n := by unfold rgN; simp
theorem rgN_at {n i : Nat} (h : i < n) : (rgN n)[i]? = some (i : Int) := by
  unfold rgN
  rw [List.getElem?_map, List.getElem?_range h]
  rfl
/-- one side adds to what stands at s -/
def add1 (f : Int → Int) (s w : Int) : Int → Int := fun x => f x + if x = s then w else 0
def cnt (q : Int × Int) (x : Int) : Int := (if x = q.1 then 1 else 0) + (if x = q.2 then 1 else 0)
def sumAt (T : List (Int × Int)) (W : Int → Int) (ks : List Int) (x : Int) : Int := (ks.map fun k => W k * cnt (nodeT T k) x).sum
theorem sumAt_snoc {T : List (Int × Int)} {W : Int → Int} {ks : List Int} {k : Int} : sumAt T W (ks ++ [k]) = add1 (add1 (sumAt T W ks) (nodeT T k).1 (W k)) (nodeT T k).2 (W k) := by
  funext x
  unfold sumAt add1 cnt
  rw [List.map_append, List.sum_append]
  simp only [List.map_cons, List.map_nil, List.sum_cons, List.sum_nil]
  split <;> split <;> omega
theorem sum_zero : ∀ {l : List Int} {f : Int → Int}, (∀ k ∈ l, f k = 0) → (l.map f).sum = 0
  | [], _, _ => rfl
  | a :: r, f, h => by
    rw [List.map_cons, List.sum_cons, h a List.mem_cons_self, sum_zero fun k hk => h k (List.mem_cons_of_mem _ hk)]
    rfl
theorem sum_out {f : Int → Int} {a : Int} : ∀ {l : List Int}, a ∈ l → (l.map f).sum = f a + ((l.erase a).map f).sum
  | [], h => by cases h
  | b :: r, h => by
    by_cases e : b = a
    · subst e
      simp
    · have h2 : a ∈ r := by
        rcases List.mem_cons.mp h with h | h
        · exact absurd h.symm e
        · exact h
      have e2 : (b :: r).erase a = b :: r.erase a := by
        rw [List.erase_cons_tail]
        simpa using e
      rw [e2, List.map_cons, List.sum_cons, List.map_cons, List.sum_cons, sum_out h2]
      omega
/-- over a row with all that counts, none twice -/
theorem sum_sub {f : Int → Int} : ∀ {a b : List Int}, a.Nodup → b.Nodup → (∀ k ∈ a, k ∈ b) → (∀ k ∈ b, k ∉ a → f k = 0) → (a.map f).sum = (b.map f).sum
  | [], b, _, _, _, h => by
    rw [sum_zero fun k hk => h k hk List.not_mem_nil]
    rfl
  | x :: a, b, na, nb, hs, h0 => by
    have na2 := List.nodup_cons.mp na
    rw [List.map_cons, List.sum_cons, sum_out (f := f) (hs x List.mem_cons_self)]
    congr 1
    refine sum_sub na2.2 (nb.erase x) (fun k hk => ?_) fun k hk hn => ?_
    · rw [List.Nodup.mem_erase_iff nb]
      exact ⟨fun e => na2.1 (e ▸ hk), hs k (List.mem_cons_of_mem _ hk)⟩
    · rw [List.Nodup.mem_erase_iff nb] at hk
      exact h0 k hk.2 fun hm => by
        rcases List.mem_cons.mp hm with e | e
        · exact hk.1 e
        · exact hn e
theorem sumAt_keys {T : List (Int × Int)} {W : Int → Int} {ks : List Int} {n : Nat} (nd : ks.Nodup) (hk : ∀ k ∈ ks, 0 ≤ k ∧ k < n) (h0 : ∀ k, 0 ≤ k → k ∉ ks → W k = 0) : sumAt T W ks = sumAt T W (rgN n) := by
  funext x
  exact sum_sub nd (rgN_nd n) (fun k h => rgN_mem.mpr (hk k h)) fun k h hn => by rw [h0 k (rgN_mem.mp h).1 hn, Int.zero_mul]
def accN (T : List (Int × Int)) : Nat → Int → Int
  | 0 => fun x => if x = 0 then 1 else 0
  | d + 1 => sumAt T (accN T d) (rgN T.length)
/-- what stands in the row of things, and of nodes -/
def rowA (f : Int → Int) (m : Nat) : List V := (List.range m).map fun i => V.int (f (-1 - (i : Nat)))
def rowB (f : Int → Int) (n : Nat) : List V := (List.range n).map fun j => V.int (f (j : Nat))
theorem rowA_at {f : Int → Int} {m i : Nat} (h : i < m) : (rowA f m)[i]? = some (.int (f (-1 - (i : Nat)))) := by
  unfold rowA
  rw [List.getElem?_map, List.getElem?_range h]
  rfl
theorem rowB_at {f : Int → Int} {m i : Nat} (h : i < m) : (rowB f m)[i]? = some (.int (f (i : Nat))) := by
  unfold rowB
  rw [List.getElem?_map, List.getElem?_range h]
  rfl
theorem rowA_len (f : Int → Int) (m : Nat) : (rowA f m).length = m := by unfold rowA; simp
theorem rowB_len (f : Int → Int) (m : Nat) : (rowB f m).length = m := by unfold rowB; simp
theorem rowA_set {f : Int → Int} {m i : Nat} {w : Int} (h : i < m) : (rowA f m).set i (.int (f (-1 - (i : Nat)) + w)) = rowA (add1 f (-1 - (i : Nat)) w) m := by
  apply List.ext_getElem?
  intro j
  by_cases hj : j < m
  · rw [rowA_at hj, List.getElem?_set]
    by_cases e : i = j
    · subst e
      rw [if_pos rfl, if_pos (by rw [rowA_len]; exact h)]
      unfold add1
      rw [if_pos rfl]
    · rw [if_neg e, rowA_at hj]
      unfold add1
      rw [if_neg (by omega), Int.add_zero]
  · rw [List.getElem?_eq_none (by rw [List.length_set, rowA_len]; omega), List.getElem?_eq_none (by rw [rowA_len]; omega)]
theorem rowB_set {f : Int → Int} {m i : Nat} {w : Int} (h : i < m) : (rowB f m).set i (.int (f (i : Nat) + w)) = rowB (add1 f (i : Nat) w) m := by
  apply List.ext_getElem?
  intro j
  by_cases hj : j < m
  · rw [rowB_at hj, List.getElem?_set]
    by_cases e : i = j
    · subst e
      rw [if_pos rfl, if_pos (by rw [rowB_len]; exact h)]
      unfold add1
      rw [if_pos rfl]
    · rw [if_neg e, rowB_at hj]
      unfold add1
      rw [if_neg (by omega), Int.add_zero]
  · rw [List.getElem?_eq_none (by rw [List.length_set, rowB_len]; omega), List.getElem?_eq_none (by rw [rowB_len]; omega)]
theorem rowA_other {f : Int → Int} {m : Nat} {s w : Int} (h : 0 ≤ s) : rowA (add1 f s w) m = rowA f m := by
  unfold rowA add1
  apply List.map_congr_left
  intro i _
  rw [if_neg (by omega), Int.add_zero]
theorem rowB_other {f : Int → Int} {m : Nat} {s w : Int} (h : s < 0) : rowB (add1 f s w) m = rowB f m := by
  unfold rowB add1
  apply List.map_congr_left
  intro i _
  rw [if_neg (by omega), Int.add_zero]
theorem rowA_zero (m : Nat) : rowA (fun _ => 0) m = List.replicate m (V.int 0) := by
  unfold rowA
  rw [List.eq_replicate_iff]
  exact ⟨by simp, fun b hb => by
    obtain ⟨_, _, rfl⟩ := List.mem_map.mp hb
    rfl⟩
theorem rowB_zero (m : Nat) : rowB (fun _ => 0) m = List.replicate m (V.int 0) := by
  unfold rowB
  rw [List.eq_replicate_iff]
  exact ⟨by simp, fun b hb => by
    obtain ⟨_, _, rfl⟩ := List.mem_map.mp hb
    rfl⟩
theorem rep_flat {x : V} : ∀ m : Nat, (List.replicate m [x]).flatten = List.replicate m x
  | 0 => rfl
  | m + 1 => by rw [List.replicate_succ, List.flatten_cons, rep_flat m]; rfl
def lvV (T : List (Int × Int)) (m d : Nat) : List V := rowA (if d = 0 then fun _ => 0 else accN T d) m
def spLeaves (K : PySem.W.Frag) : Sp := fun vs H Q _ => ∃ (m : Nat) (p : Addr) (xs : List V) (T : List (Int × Int)) (d : Nat), vs = [.int (m : Nat), .ref p, .int (d : Nat)] ∧ SqT K H p xs ∧ NdAt K H xs T ∧ TreeT m T ∧ 1 ≤ m ∧ m ≤ 6 ∧ T.length ≤ 900 ∧ d ≤ 100 ∧
  ∀ (r : Addr) (H2 : Hp), Same H H2 → SqT K H2 r (lvV T m d) → Q (.ref r) H2
theorem ix_neg {xs : Nat} {s : Int} (h0 : s < 0) (h1 : -1 - s < xs) : ixN xs (-1 - s) = some (-1 - s).toNat := by
  unfold ixN
  rw [if_pos (by omega), if_pos (by omega)]
end SG

namespace SG
open PySem PySem.Spec PyProof.Rows L2
section
variable {P : Program} {w : World} {K : PySem.W.Frag} {mg : Str → Option Value} {base : Heap}
/-- [0] * n -/
theorem zeros {σ : L2.St} {H : Hp} {tn : TE} {n : Nat} {R : VK} (hn : ∀ (H2 : Hp) (Q : VK), Same H H2 → Q (.int (n : Nat)) H2 → tn σ H2 Q) (h6 : n ≤ 1000) (q : ∀ (p : Addr) (H2 : Hp), Same H H2 → H p = none → H2 p = some (.lst (List.replicate n (V.int 0))) → R (.ref p) H2) : tOp rRep (tLst (tCons (tC (V.int 0)) tNil)) tn σ H R := by
  refine ⟨by show 1 ≤ sizeLine; decide, fun pl npl => ?_⟩
  have s1 : Same H (upd H pl (.lst [.int 0])) := same_new npl
  refine hn _ _ s1 ⟨pl, (n : Int), [.int 0], rfl, rfl, upd_same, by omega, by omega, ?_, fun p np => ?_⟩
  · have : [V.int 0].length * n ≤ 1000 := by
      show 1 * n ≤ 1000
      omega
    have e2 : ((n : Int)).toNat = n := rfl
    rw [e2]
    exact Nat.le_of_lt (small1000 this)
  · refine q p _ (s1.trans (same_new np)) (s1.free np) ?_
    have e2 : ((n : Int)).toNat = n := rfl
    rw [upd_same, e2, rep_flat]
theorem atI_A {f : Int → Int} {m : Nat} {s : Int} (h0 : s < 0) (h1 : -(m : Int) ≤ s) : atI (rowA f m) (-1 - s) = some (.int (f s)) := by
  unfold atI
  rw [rowA_len, ix_neg h0 (by omega)]
  show (rowA f m)[(-1 - s).toNat]? = _
  rw [rowA_at (by omega), show -1 - ((((-1 - s).toNat : Nat)) : Int) = s by omega]
theorem ok_leavesL {f : Addr} {fd : FuncData} (F : Fun K "_law_leaves" "_law_leaves" s__law_leaves f fd) (T : Txt mg) : GFn P w K mg base CX0 1 f fd ["_law_much", "_law_nodes", "_law_level"] (spLeaves K) := by
  refine gfun_ok F sc__law_leaves (fun vs H Q E h => ?_) (fun cdv A outer s H vs Q E hgu hr h => ?_)
  · obtain ⟨m, p, xs, T2, d, rfl, _⟩ := h
    rfl
  · obtain ⟨m, p, xs, T2, d, rfl, hp, na, tr, m1, m6, tl, d100, q⟩ := h
    have nd := sc__law_leaves.nd
    refine ⟨_, (pss_cons (ps_par (i := 3) (j := 4) rfl nd rfl rfl (by decide) rfl rfl (pa_cons (pe_lc (own := [("_law_k", 7)]) rfl nd (pi_range1 rfl T.range (pa_cons (pe_callB (k_len (K := K)) (by rfl) T.len (by decide +kernel) (pa_cons (pv 1) pa_nil)) pa_nil)) (blkOk_by (N := N__law_leaves) (sc := defScope s__law_leaves) (by decide +kernel)) (fun _ _ _ _ _ => (pg_name (i := 7) nd rfl (Or.inl rfl))) (fun _ _ _ _ _ => pts_nil) (fun _ _ _ _ _ => (pe_callTy call_int1 (by rfl) T.int (by decide +kernel) (pa_cons (pe_cmpR op_eq (pv 7) pe_int (nomark _)) pa_nil)))) (pa_cons (pe_op op_rep (pe_lst (pa_cons pe_int pa_nil)) (pv 0)) pa_nil)) (by rfl))
      (pss_cons (ps_for PassesOwn.never rfl (pi_range1 rfl T.range (pa_cons (pv 2) pa_nil)) (pg_name (i := 5) nd rfl (Or.inl rfl))
        (pss_cons (ps_par (i := 6) (j := 4) rfl nd rfl rfl (by decide) rfl rfl (pa_cons (pe_op op_rep (pe_lst (pa_cons pe_int pa_nil)) (pe_callB (k_len (K := K)) (by rfl) T.len (by decide +kernel) (pa_cons (pv 1) pa_nil))) (pa_cons (pe_op op_rep (pe_lst (pa_cons pe_int pa_nil)) (pv 0)) pa_nil)) (by rfl))
      (pss_cons (ps_for PassesOwn.never rfl (k_enumT (K := K) (by rfl) T.enumerate (pa_cons (pv 1) pa_nil)) (k_tg (K := K) (n := 2) rfl (pgs_cons (pg_name (i := 7) nd rfl (Or.inl rfl)) (pgs_cons (pg_name (i := 8) nd rfl (Or.inl rfl)) pgs_nil)))
        (pss_one (ps_for PassesOwn.never rfl (pi_tup (pv 8)) (pg_name (i := 9) nd rfl (Or.inl rfl))
        (pss_one (ps_if (pt_cmpR op_lt (pv 9) pe_int (nomark _)) (pss_one (ps_asg (pe_op op_add (pe_ix (k_ixL (K := K)) (pv 4) (pe_op op_sub (pe_un un_neg pe_int) (pv 9)) (fun _ _ => rfl)) (pe_ix (k_ixL (K := K)) (pv 3) (pv 7) (fun _ _ => rfl))) (pg_sub (pv 4) (pe_op op_sub (pe_un un_neg pe_int) (pv 9)) set_list))) (pss_one (ps_asg (pe_op op_add (pe_ix (k_ixL (K := K)) (pv 6) (pv 9) (fun _ _ => rfl)) (pe_ix (k_ixL (K := K)) (pv 3) (pv 7) (fun _ _ => rfl))) (pg_sub (pv 6) (pv 9) set_list))))))))
      (pss_one (ps_set (i := 3) nd rfl (Or.inl rfl) (pv 6))))))
      (pss_one (ps_ret (pe_callTy (k_tupOf (K := K)) (by rfl) T.tuple (by decide +kernel) (pa_cons (pv 4) pa_nil)))))), ?_⟩
    have lx := na.len
    have t1 := tr.1
    refine ⟨_, rfl, p, _, rfl, .inr hp, _, rfl, by omega, by omega, fun D1 nD1 => ?_⟩
    refine lc_same walk_range (by omega) nD1 (fun i acc _ => acc = rowB (accN T2 0) i) rfl (fun _ _ _ _ _ h => h) (fun _ _ => trivial) ?_ ?_
    · rintro i x acc H5 H6 hi s5 rfl ⟨rfl, rfl⟩ R N hR hN
      refine ⟨wipe1 _ _ _, ?_⟩
      refine yesI (A := fun H7 => _) ?_
      refine ⟨_, rfl, rfl, .inr ⟨_, rfl, hR _ _ (Same.refl _) ?_⟩⟩
      unfold rowB
      rw [List.range_succ, List.map_append]
      congr 1
      show [V.int (if decide (V.int (0 + (i : Int)) = V.int 0) = true then 1 else 0)] = [V.int (accN T2 0 (i : Nat))]
      rw [dec_int]
      unfold accN
      by_cases e : i = 0
      · subst e
        rfl
      · rw [if_neg (by simp; omega), if_neg (by omega)]
    · intro acc H2 s2 hl hD1 ea
      rw [show ((xs.length : Nat) : Int).toNat = T2.length by omega] at ea
      subst ea
      refine zeros (n := m) (fun H3 Q3 s3 h3 => ⟨_, rfl, h3⟩) (by omega) fun pf H3 s3 npf hf3 => ⟨_, _, rfl, ?_⟩
      have hD3 := s3 _ _ hD1
      have s03 := s2.trans s3
      have d1f : D1 ≠ pf := ne_of_none hD1 npf
      refine ⟨_, rfl, _, rfl, by omega, by omega, ?_⟩
      rw [show ((d : Int)).toNat = d from rfl]
      refine for_it walk_range (fun i σ HI => ∃ (pw pf : Addr) (y5 y6 y7 y8 y9 : Option V), σ = [some (.int (m : Nat)), some (.ref p), some (.int (d : Nat)), some (.ref pw), some (.ref pf), y5, y6, y7, y8, y9] ∧ Same H HI ∧ HI pw = some (.lst (rowB (accN T2 i) T2.length)) ∧ HI pf = some (.lst (lvV T2 m i)))
        ⟨D1, pf, _, _, _, _, _, rfl, s03, hD3, by rw [hf3, ← rowA_zero]; rfl⟩ (fun _ _ _ _ _ => trivial) ?_ ?_
      · rintro i x σ HI HJ hi ⟨pw, pf, y5, y6, y7, y8, y9, rfl, sI, hw, hf⟩ ⟨rfl, rfl⟩
        refine zeros (n := T2.length) (fun H4 Q4 s4 h4 => ⟨_, rfl, p, _, rfl, .inr (sameT (sI.trans s4) hp), by rw [lx]; exact h4⟩) (by omega) fun pl H4 s4 npl hl4 => ?_
        refine zeros (n := m) (fun H5 Q5 s5 h5 => ⟨_, rfl, h5⟩) (by omega) fun pf2 H5 s5 npf2 hf5 => ⟨_, _, rfl, ?_⟩
        have hl5 := s5 _ _ hl4
        have hw5 := s5 _ _ (s4 _ _ hw)
        have s05 := sI.trans (s4.trans s5)
        have lf : pl ≠ pf2 := ne_of_none hl4 npf2
        have wl : pw ≠ pl := ne_of_none hw npl
        have wf : pw ≠ pf2 := ne_of_none (s4 _ _ hw) npf2
        have npl0 : H pl = none := sI.free npl
        have npf0 : H pf2 = none := (sI.trans s4).free npf2
        rw [← rowB_zero] at hl5
        rw [← rowA_zero] at hf5
        refine ⟨_, rfl, p, _, rfl, sameT s05 hp, for_it (walk_enumT (K := K) (a := p) (xs := xs)) (fun k σ HK => ∃ (y7 y8 y9 : Option V), σ = [some (.int (m : Nat)), some (.ref p), some (.int (d : Nat)), some (.ref pw), some (.ref pf2), some (.int (0 + (i : Int))), some (.ref pl), y7, y8, y9] ∧ Same H HK ∧ HK pw = some (.lst (rowB (accN T2 i) T2.length)) ∧ HK pl = some (.lst (rowB (sumAt T2 (accN T2 i) ((rgN T2.length).take k)) T2.length)) ∧ HK pf2 = some (.lst (rowA (sumAt T2 (accN T2 i) ((rgN T2.length).take k)) m)))
          ⟨_, _, _, rfl, s05, hw5, hl5, hf5⟩ (fun k σ HK _ ⟨_, _, _, _, s6, _⟩ => sameT s6 hp) ?_ ?_⟩
        · rintro k v σ HK HL hk ⟨y7, y8, y9, rfl, s6, hw6, hl6, hf6⟩ ⟨T9, x9, y, rfl, n9, rfl, e9, hy⟩
          cases e9
          have hkT : k < T2.length := by omega
          obtain ⟨x', a', e1, rfl, e3⟩ := (na.keep fun _ _ h => sameT s6 h).at (nodeT_at (T := T2) (k := (k : Int)) (by omega) (by omega))
          have hy : xs[k]? = some y := hy
          rw [show ((k : Int)).toNat = k from rfl, hy] at e1
          cases e1
          have s9 : Same HK (upd HK T9 (.tup [.int (k : Nat), .ref a'])) := same_new n9
          have h99 : upd HK T9 (.tup [.int (k : Nat), .ref a']) T9 = some (.tup [.int (k : Nat), .ref a']) := upd_same
          have hw9 := s9 _ _ hw6
          have hl9 := s9 _ _ hl6
          have hf9 := s9 _ _ hf6
          have e39 := sameT s9 e3
          have s09 := s6.trans s9
          generalize upd HK T9 (.tup [.int (k : Nat), .ref a']) = HL at h99 hw9 hl9 hf9 e39 s09 ⊢
          refine ⟨T9, _, rfl, .inl (.inl h99), rfl, _, _, rfl, _, _, rfl, rfl, ?_⟩
          have okk := tr.2 _ (nodeT_mem (T := T2) (k := (k : Int)) (by omega) (by omega))
          generalize hq2 : nodeT T2 (k : Int) = q2 at e39 okk
          generalize hF : sumAt T2 (accN T2 i) ((rgN T2.length).take k) = F at hl9 hf9
          refine ⟨_, rfl, a', rfl, ⟨_, e39⟩, for_it (walk_tup (K := K) (a := a') (xs := [q2.1, q2.2].map V.int)) (fun j σ HM => ∃ (y9 : Option V), σ = [some (.int (m : Nat)), some (.ref p), some (.int (d : Nat)), some (.ref pw), some (.ref pf2), some (.int (0 + (i : Int))), some (.ref pl), some (.int (k : Nat)), some (.ref a'), y9] ∧ Same H HM ∧ SqT K HM a' ([q2.1, q2.2].map V.int) ∧ HM pw = some (.lst (rowB (accN T2 i) T2.length)) ∧ HM pl = some (.lst (rowB (([q2.1, q2.2].take j).foldl (fun g s => add1 g s (accN T2 i (k : Nat))) F) T2.length)) ∧ HM pf2 = some (.lst (rowA (([q2.1, q2.2].take j).foldl (fun g s => add1 g s (accN T2 i (k : Nat))) F) m)))
            ⟨_, rfl, s09, e39, hw9, hl9, hf9⟩ (fun j σ HM _ ⟨_, _, _, h, _⟩ => h) ?_ ?_⟩
          · rintro j v σ HM HN hj ⟨y9, rfl, sM, ha, hwM, hlM, hfM⟩ ⟨rfl, hv⟩
            obtain ⟨sd, rfl, hsd⟩ := get_int hv
            have e : ([q2.1, q2.2].take (j + 1)).foldl (fun g s => add1 g s (accN T2 i (k : Nat))) F = add1 (([q2.1, q2.2].take j).foldl (fun g s => add1 g s (accN T2 i (k : Nat))) F) sd (accN T2 i (k : Nat)) := by
              rw [List.take_add_one, hsd, List.foldl_append]
              rfl
            rw [e]
            generalize ([q2.1, q2.2].take j).foldl (fun g s => add1 g s (accN T2 i (k : Nat))) F = G at hlM hfM ⊢
            have os : OkS m T2.length sd := by
              rcases List.mem_cons.mp (List.mem_of_getElem? hsd) with rfl | h
              · exact okk.1
              · rw [List.mem_singleton.mp h]
                exact okk.2
            unfold OkS at os
            refine ⟨_, rfl, _, _, rfl, rfl, _, rfl, ite2 (fun h => ?_) (fun h => ?_)⟩
            · have h := of_decide_eq_true h
              refine ⟨_, rfl, 1, rfl, _, rfl, _, _, rfl, rfl, pf2, _, -1 - sd, _, rfl, rfl, SqL.of hfM, atI_A h os.1, _, rfl, _, rfl, pw, _, (k : Int), _, rfl, rfl, SqL.of hwM, atI_nat (rowB_at hkT), _, _, rfl, rfl, ?_⟩
              refine ⟨_, rfl, 1, rfl, _, rfl, _, _, rfl, rfl, pf2, _, -1 - sd, (-1 - sd).toNat, rfl, rfl, hfM, by rw [rowA_len]; exact ix_neg h (by omega), ?_⟩
              refine ⟨_, rfl, same_upd_of sM npf0, sqT_tups (tups_upd hfM) ha, by rw [upd_ne wf]; exact hwM, ?_, ?_⟩
              · rw [upd_ne lf, rowB_other h]
                exact hlM
              · rw [upd_same]
                have z := rowA_set (f := G) (m := m) (i := (-1 - sd).toNat) (w := accN T2 i (k : Nat)) (by omega)
                rw [show -1 - ((((-1 - sd).toNat : Nat)) : Int) = sd by omega] at z
                rw [← z]
            · have h : ¬ sd < 0 := fun z => h (decide_eq_true z)
              refine ⟨_, rfl, _, rfl, pl, _, sd, _, rfl, rfl, SqL.of hlM, by rw [int_nat (k := sd) (by omega)]; exact atI_nat (rowB_at (by omega)), _, rfl, _, rfl, pw, _, (k : Int), _, rfl, rfl, SqL.of hwM, atI_nat (rowB_at hkT), _, _, rfl, rfl, ?_⟩
              refine ⟨_, rfl, _, rfl, pl, _, sd, sd.toNat, rfl, rfl, hlM, ?_, ?_⟩
              · unfold ixN
                rw [rowB_len, if_pos (by omega), if_pos (by omega)]
              refine ⟨_, rfl, same_upd_of sM npl0, sqT_tups (tups_upd hlM) ha, by rw [upd_ne wl]; exact hwM, ?_, ?_⟩
              · rw [upd_same]
                have z := rowB_set (f := G) (m := T2.length) (i := sd.toNat) (w := accN T2 i (k : Nat)) (by omega)
                have ez : (((sd.toNat : Nat)) : Int) = sd := by omega
                rw [ez] at z
                rw [ez, ← z]
              · rw [upd_ne (Ne.symm lf), rowA_other (by omega)]
                exact hfM
          · rintro σ HM ⟨y9, rfl, sM, ha, hwM, hlM, hfM⟩
            have e : (rgN T2.length).take (k + 1) = (rgN T2.length).take k ++ [(k : Int)] := by
              rw [List.take_add_one, rgN_at hkT]
              rfl
            have e2 : sumAt T2 (accN T2 i) ((rgN T2.length).take (k + 1)) = ([q2.1, q2.2].take ([q2.1, q2.2].map V.int).length).foldl (fun g s => add1 g s (accN T2 i (k : Nat))) F := by
              rw [e, sumAt_snoc, hF, hq2]
              rfl
            rw [← e2] at hlM hfM
            exact ⟨_, _, _, rfl, sM, hwM, hlM, hfM⟩
        · rintro σ HK ⟨y7, y8, y9, rfl, s6, hw6, hl6, hf6⟩
          have e : (rgN T2.length).take xs.length = rgN T2.length := List.take_of_length_le (by rw [rgN_len]; omega)
          rw [e] at hl6 hf6
          refine ⟨_, rfl, pl, pf2, _, _, _, _, _, rfl, s6, hl6, ?_⟩
          rw [hf6]
          rfl
      · rintro σ HI ⟨pw, pf, y5, y6, y7, y8, y9, rfl, sI, hw, hf⟩
        refine ⟨_, rfl, pf, _, rfl, .inl ⟨SqL.of hf, fun r nr => q r _ (sI.trans (same_new nr)) (.inl (.inl upd_same))⟩⟩
end
end SG

namespace SG
open PySem PySem.Spec PyProof.Rows L2
section
variable {P : Program} {w : World} {K : PySem.W.Frag} {mg : Str → Option Value} {base : Heap}
def waysK (f : Int → Int) (ks : List Int) : List (Key × V) := ks.map fun k => (Sum.inl k, V.int (f k))
structure DcP (f : Int → Int) (ks : List Int) (n : Nat) : Prop where
  nd : ks.Nodup
  lo : ∀ k ∈ ks, 0 ≤ k ∧ k < n
  z : ∀ k, 0 ≤ k → k ∉ ks → f k = 0
theorem val_ways (f : Int → Int) : ∀ (ks : List Int) (k : Int), valV (waysK f ks) (Sum.inl k) = if k ∈ ks then some (V.int (f k)) else none
  | [], k => by simp [waysK, valV]
  | a :: r, k => by
    have ih := val_ways f r k
    by_cases e : a = k
    · subst e
      show valV ((Sum.inl a, V.int (f a)) :: waysK f r) (Sum.inl a) = _
      rw [valV_pos rfl, if_pos List.mem_cons_self]
    · show valV ((Sum.inl a, V.int (f a)) :: waysK f r) (Sum.inl k) = _
      have ne : ¬ (Sum.inl a : Key) = Sum.inl k := fun z => e (Sum.inl.inj z)
      rw [valV_neg ne, ih]
      have : (k ∈ a :: r) ↔ k ∈ r := by simp [Ne.symm e, eq_comm, e]
      by_cases h : k ∈ r
      · rw [if_pos h, if_pos (this.mpr h)]
      · rw [if_neg h, if_neg (fun z => h (this.mp z))]
theorem ways_get {f : Int → Int} {ks : List Int} {n : Nat} (h : DcP f ks n) {k : Int} (h0 : 0 ≤ k) : (valV (waysK f ks) (Sum.inl k)).getD (.int 0) = .int (f k) := by
  rw [val_ways]
  by_cases e : k ∈ ks
  · rw [if_pos e]
    rfl
  · rw [if_neg e, h.z k h0 e]
    rfl
def addK (ks : List Int) (s : Int) : List Int := if s ∈ ks then ks else ks ++ [s]
theorem ways_put {f : Int → Int} {ks : List Int} {s v : Int} : putK (waysK f ks) (Sum.inl s) (.int (f s + v)) = waysK (add1 f s v) (addK ks s) := by
  by_cases e : s ∈ ks
  · unfold addK
    rw [if_pos e]
    unfold putK waysK
    rw [if_pos, List.map_map]
    · apply List.map_congr_left
      intro k _
      show (if (Sum.inl k : Key) = Sum.inl s then _ else _) = _
      by_cases e2 : k = s
      · subst e2
        rw [if_pos rfl]
        unfold add1
        rw [if_pos rfl]
      · rw [if_neg (fun z => e2 (Sum.inl.inj z))]
        unfold add1
        rw [if_neg e2, Int.add_zero]
    · rw [List.any_map, List.any_eq_true]
      exact ⟨s, e, decide_eq_true rfl⟩
  · rw [putK_new _ (by rw [val_ways, if_neg e])]
    unfold addK waysK
    rw [if_neg e, List.map_append]
    congr 1
    · apply List.map_congr_left
      intro k hk
      have e2 : k ≠ s := fun z => e (z ▸ hk)
      unfold add1
      rw [if_neg e2, Int.add_zero]
    · unfold add1
      simp
theorem DcP.add {f : Int → Int} {ks : List Int} {n : Nat} {s v : Int} (h : DcP f ks n) (h0 : 0 ≤ s) (h1 : s < n) : DcP (add1 f s v) (addK ks s) n := by
  by_cases e : s ∈ ks
  · unfold addK
    rw [if_pos e]
    refine ⟨h.nd, h.lo, fun k k0 hk => ?_⟩
    unfold add1
    have h3 : k ≠ s := fun z => hk (by rw [z]; exact e)
    rw [if_neg h3, Int.add_zero]
    exact h.z k k0 hk
  · unfold addK
    rw [if_neg e]
    refine ⟨?_, fun k hk => ?_, fun k k0 hk => ?_⟩
    · rw [List.nodup_append]
      exact ⟨h.nd, by simp, fun a ha b hb z => by rw [List.mem_singleton.mp hb] at z; exact e (z ▸ ha)⟩
    · rcases List.mem_append.mp hk with hk | hk
      · exact h.lo k hk
      · rw [List.mem_singleton.mp hk]
        exact ⟨h0, h1⟩
    · have h2 : k ∉ ks := fun z => hk (List.mem_append_left _ z)
      have h3 : k ≠ s := fun z => hk (List.mem_append_right _ (List.mem_singleton.mpr z))
      unfold add1
      rw [if_neg h3, Int.add_zero]
      exact h.z k k0 h2
theorem DcP.neg {f : Int → Int} {ks : List Int} {n : Nat} {s v : Int} (h : DcP f ks n) (h0 : s < 0) : DcP (add1 f s v) ks n := ⟨h.nd, h.lo, fun k k0 hk => by
  unfold add1
  rw [if_neg (by omega), Int.add_zero]
  exact h.z k k0 hk⟩
theorem ways_neg {f : Int → Int} {ks : List Int} {n : Nat} {s v : Int} (h : DcP f ks n) (h0 : s < 0) : waysK (add1 f s v) ks = waysK f ks := by
  unfold waysK add1
  apply List.map_congr_left
  intro k hk
  have := h.lo k hk
  rw [if_neg (by omega), Int.add_zero]
theorem DcP.len {f : Int → Int} {ks : List Int} {n : Nat} (h : DcP f ks n) : ks.length ≤ n := nd_len _ h.nd h.lo
def spTossed (K : PySem.W.Frag) : Sp := fun vs H Q _ => ∃ (m : Nat) (p a : Addr) (xs : List V) (T : List (Int × Int)) (f : Int → Int) (ks : List Int), vs = [.int (m : Nat), .ref p, .ref a] ∧ SqT K H p xs ∧ NdAt K H xs T ∧ TreeT m T ∧ m ≤ 6 ∧ T.length ≤ 900 ∧ H a = some (.dK (waysK f ks)) ∧ DcP f ks T.length ∧
  ∀ (r b l : Addr) (ks2 : List Int) (H2 : Hp), Same H H2 → SqT K H2 r [.ref b, .ref l] → H2 b = some (.dK (waysK (sumAt T f (rgN T.length)) ks2)) → DcP (sumAt T f (rgN T.length)) ks2 T.length → H2 l = some (.lst (rowA (sumAt T f (rgN T.length)) m)) → Q (.ref r) H2
theorem ok_tossed {f : Addr} {fd : FuncData} (F : Fun K "tossed" "tossed" s_tossed f fd) (T : Txt mg) : GFn P w K mg base CX0 1 f fd ["many", "tree", "ways"] (spTossed K) := by
  refine gfun_ok F sc_tossed (fun vs H Q E h => ?_) (fun cdv A outer s H vs Q E hgu hr h => ?_)
  · obtain ⟨m, p, a, xs, T2, g, ks, rfl, _⟩ := h
    rfl
  · obtain ⟨m, p, a, xs, T2, g, ks, rfl, hp, na, tr, m6, tl, ha, dc, q⟩ := h
    have nd := sc_tossed.nd
    refine ⟨_, (pss_cons (ps_set (i := 3) nd rfl (Or.inl rfl) pe_dnewK)
      (pss_cons (ps_set (i := 4) nd rfl (Or.inl rfl) (pe_op op_rep (pe_lst (pa_cons pe_int pa_nil)) (pv 0)))
      (pss_cons (ps_lock (ps_for PassesOwn.never rfl (pi_keys (pv 2)) (pg_name (i := 5) nd rfl (Or.inl rfl))
        (pss_one (ps_for PassesOwn.never rfl (pi_tup (pe_ix (k_ixT (K := K)) (pv 1) (pv 5) (fun _ _ => rfl))) (pg_name (i := 6) nd rfl (Or.inl rfl))
        (pss_one (ps_if (pt_cmpR op_lt (pv 6) pe_int (nomark _)) (pss_one (ps_augS (pv 4) (pe_op op_sub (pe_un un_neg pe_int) (pv 6)) (get_list (K := K)) (pe_dget (hu_of hr) (pv 2) (pv 5) (fun _ _ => rfl)) ip_add set_list)) (pss_one (ps_dput (hu_of hr) (pv 3) (pv 6) (pe_op op_add (pe_dget2 (hu_of hr) (pv 3) (pv 6) pe_int ⟨by rfl, by rfl, by rfl, by rfl⟩) (pe_dget (hu_of hr) (pv 2) (pv 5) (fun _ _ => rfl))) rfl))))))))
      (pss_one (ps_ret (pe_tup (pa_cons (pv 3) (pa_cons (pv 4) pa_nil)))))))), ?_⟩
    have lx := na.len
    have lks := dc.len
    refine fun pb npb => ?_
    have s1 : Same H (upd H pb (.dK [])) := same_new npb
    have hb1 : upd H pb (.dK []) pb = some (.dK []) := upd_same
    generalize upd H pb (.dK []) = H1 at s1 hb1 ⊢
    refine zeros (n := m) (fun H3 Q3 s3 h3 => ⟨_, rfl, h3⟩) (by omega) fun pl H3 s3 npl hl3 => ?_
    have hb3 := s3 _ _ hb1
    have s03 := s1.trans s3
    have npl0 : H pl = none := s1.free npl
    have bl : pb ≠ pl := ne_of_none hb1 npl
    have ab : a ≠ pb := ne_of_none ha npb
    have al : a ≠ pl := ne_of_none ha npl0
    have ha3 := s03 _ _ ha
    rw [← rowA_zero] at hl3
    refine ⟨a, _, ha3, trivial, fun od => ?_⟩
    have k4 : But a H (upd H3 a (.frz od (.dK (waysK g ks)))) := fun b o h hb => by
      rw [upd_ne hb]
      exact s03 _ _ h
    have ha4 : upd H3 a (.frz od (.dK (waysK g ks))) a = some (.frz od (.dK (waysK g ks))) := upd_same
    have hb4 : upd H3 a (.frz od (.dK (waysK g ks))) pb = some (.dK []) := by rw [upd_ne (Ne.symm ab)]; exact hb3
    have hl4 : upd H3 a (.frz od (.dK (waysK g ks))) pl = some (.lst (rowA (fun _ => 0) m)) := by rw [upd_ne (Ne.symm al)]; exact hl3
    generalize upd H3 a (.frz od (.dK (waysK g ks))) = H4 at k4 ha4 hb4 hl4 ⊢
    refine ⟨_, rfl, a, od, rfl, .inl ⟨_, ha4, for_it walk_keys (fun i σ HI => ∃ (ks2 : List Int) (y5 y6 : Option V), σ = [some (.int (m : Nat)), some (.ref p), some (.ref a), some (.ref pb), some (.ref pl), y5, y6] ∧ But a H HI ∧ HI a = some (.frz od (.dK (waysK g ks))) ∧ HI pb = some (.dK (waysK (sumAt T2 g (ks.take i)) ks2)) ∧ DcP (sumAt T2 g (ks.take i)) ks2 T2.length ∧ HI pl = some (.lst (rowA (sumAt T2 g (ks.take i)) m)))
      ⟨[], _, _, rfl, k4, ha4, hb4, ⟨List.nodup_nil, fun _ h => (nomatch h), fun _ _ _ => rfl⟩, hl4⟩ (fun i σ HI _ ⟨_, _, _, _, _, h, _⟩ => h) ?_ ?_⟩⟩
    · rintro i x σ HI HJ hi ⟨ks2, y5, y6, rfl, kI, haI, hbI, dcI, hlI⟩ ⟨rfl, kk, vv, hkv, rfl⟩
      have hik : i < ks.length := by
        have : i < (waysK g ks).length := hi
        unfold waysK at this
        rwa [List.length_map] at this
      obtain ⟨k, hk⟩ : ∃ k, ks[i]? = some k := ⟨_, List.getElem?_eq_getElem hik⟩
      have ek : kk = Sum.inl k := by
        unfold waysK at hkv
        rw [List.getElem?_map, hk] at hkv
        cases hkv
        rfl
      subst ek
      have kmem := List.mem_of_getElem? hk
      obtain ⟨k0, k1⟩ := dc.lo k kmem
      have okk := tr.2 _ (nodeT_mem k0 k1)
      have hpI := sqT_but kI ha hp
      have naI := na.keep fun _ _ h => sqT_but kI ha h
      refine ⟨_, rfl, _, rfl, tree_ix hpI naI k0 k1 fun an han => ?_⟩
      have e4 : ks.take (i + 1) = ks.take i ++ [k] := by
        rw [List.take_add_one, hk]
        rfl
      rw [e4, sumAt_snoc]
      generalize sumAt T2 g (ks.take i) = F at hbI dcI hlI ⊢
      generalize nodeT T2 k = q2 at han okk ⊢
      have e5 : add1 (add1 F q2.1 (g k)) q2.2 (g k) = ([q2.1, q2.2].take ([q2.1, q2.2].map V.int).length).foldl (fun h s => add1 h s (g k)) F := rfl
      rw [e5]
      refine ⟨an, rfl, ⟨_, han⟩, for_it (walk_tup (K := K) (a := an) (xs := [q2.1, q2.2].map V.int)) (fun j σ HM => ∃ (ks2 : List Int) (y6 : Option V), σ = [some (.int (m : Nat)), some (.ref p), some (.ref a), some (.ref pb), some (.ref pl), some (.int k), y6] ∧ But a H HM ∧ HM a = some (.frz od (.dK (waysK g ks))) ∧ SqT K HM an ([q2.1, q2.2].map V.int) ∧ HM pb = some (.dK (waysK (([q2.1, q2.2].take j).foldl (fun h s => add1 h s (g k)) F) ks2)) ∧ DcP (([q2.1, q2.2].take j).foldl (fun h s => add1 h s (g k)) F) ks2 T2.length ∧ HM pl = some (.lst (rowA (([q2.1, q2.2].take j).foldl (fun h s => add1 h s (g k)) F) m)))
        ⟨ks2, _, rfl, kI, haI, han, hbI, dcI, hlI⟩ (fun j σ HM _ ⟨_, _, _, _, _, h, _⟩ => h) ?_ ?_⟩
      · rintro j v σ HM HN hj ⟨ks3, y6, rfl, kM, haM, hanM, hbM, dcM, hlM⟩ ⟨rfl, hv⟩
        obtain ⟨sd, rfl, hsd⟩ := get_int hv
        have e : ([q2.1, q2.2].take (j + 1)).foldl (fun h s => add1 h s (g k)) F = add1 (([q2.1, q2.2].take j).foldl (fun h s => add1 h s (g k)) F) sd (g k) := by
          rw [List.take_add_one, hsd, List.foldl_append]
          rfl
        rw [e]
        generalize ([q2.1, q2.2].take j).foldl (fun h s => add1 h s (g k)) F = G at hbM dcM hlM ⊢
        have os : OkS m T2.length sd := by
          rcases List.mem_cons.mp (List.mem_of_getElem? hsd) with rfl | h
          · exact okk.1
          · rw [List.mem_singleton.mp h]
            exact okk.2
        unfold OkS at os
        have dga : ∀ HZ : Hp, HZ a = some (.frz od (.dK (waysK g ks))) → DGet HZ a (.int k) (some (.int (g k))) := fun HZ h => by
          have z : DGet HZ a (.int k) (valV (waysK g ks) (.inl k)) := .inl ⟨_, .inl k, .inr ⟨od, h⟩, rfl, rfl⟩
          rw [val_ways, if_pos kmem] at z
          exact z
        have ndl : ∀ {HZ : Hp} {o : HO}, HZ a = some (.frz od (.dK (waysK g ks))) → upd HZ pl o a = some (.frz od (.dK (waysK g ks))) := fun h => by rw [upd_ne al]; exact h
        refine ⟨_, rfl, _, _, rfl, rfl, _, rfl, ite2 (fun h => ?_) (fun h => ?_)⟩
        · have h := of_decide_eq_true h
          refine ⟨_, rfl, 1, rfl, _, rfl, _, _, rfl, rfl, pl, _, -1 - sd, _, rfl, rfl, SqL.of hlM, atI_A h os.1, _, rfl, _, rfl, a, _, rfl, dga _ haM, _, _, rfl, rfl, pl, _, -1 - sd, (-1 - sd).toNat, rfl, rfl, hlM, by rw [rowA_len]; exact ix_neg h (by omega), ?_⟩
          have kN : But a H (upd HN pl (.lst ((rowA G m).set (-1 - sd).toNat (.int (G sd + g k))))) := fun b o hb hn => by
            rw [upd_ne (ne_of_none hb npl0)]
            exact kM _ _ hb hn
          refine ⟨ks3, _, rfl, kN, ndl haM, sqT_tups (tups_upd hlM) hanM, by rw [upd_ne bl, ways_neg dcM h]; exact hbM, dcM.neg h, ?_⟩
          rw [upd_same]
          have z := rowA_set (f := G) (m := m) (i := (-1 - sd).toNat) (w := g k) (by omega)
          rw [show -1 - ((((-1 - sd).toNat : Nat)) : Int) = sd by omega] at z
          rw [← z]
        · have h : ¬ sd < 0 := fun z => h (decide_eq_true z)
          refine ⟨_, rfl, pb, rfl, .inl ⟨_, .inl hbM⟩, _, rfl, _, DGet.k (k := .inl sd) hbM, _, rfl, _, rfl, a, _, rfl, dga _ haM, G sd, g k, ways_get dcM (by omega), rfl, _, rfl, _, rfl, pb, _, rfl, DPut.k (k := .inl sd) hbM (by unfold waysK; rw [List.length_map]; have := dcM.len; exact small1000 (by omega)), ?_⟩
          rw [ways_put]
          have kN : But a H (upd HN pb (.dK (waysK (add1 G sd (g k)) (addK ks3 sd)))) := fun b o hb hn => by
            rw [upd_ne (ne_of_none hb npb)]
            exact kM _ _ hb hn
          refine ⟨addK ks3 sd, _, rfl, kN, by rw [upd_ne ab]; exact haM, ?_, upd_same, dcM.add (by omega) os.2, by rw [upd_ne (Ne.symm bl), rowA_other (by omega)]; exact hlM⟩
          exact sqT_but (d := pb) (H := HN) (fun b o hb hn => by rw [upd_ne hn]; exact hb) hbM hanM
      · rintro σ HM ⟨ks3, y6, rfl, kM, haM, hanM, hbM, dcM, hlM⟩
        exact ⟨ks3, _, _, rfl, kM, haM, hbM, dcM, hlM⟩
    · rintro σ HI ⟨ks2, y5, y6, rfl, kI, haI, hbI, dcI, hlI⟩
      have e : ks.take (waysK g ks).length = ks := List.take_of_length_le (by unfold waysK; rw [List.length_map]; exact Nat.le_refl _)
      rw [e, sumAt_keys dc.nd dc.lo dc.z] at hbI dcI hlI
      refine ⟨haI, _, rfl, _, rfl, by show 2 ≤ sizeLine; decide, fun r nr => ?_⟩
      have sE : Same H (upd HI a (.dK (waysK g ks))) := fun b o hb => by
        by_cases e : b = a
        · rw [e, upd_same]
          rw [e, ha] at hb
          exact hb
        · rw [upd_ne e]
          exact kI _ _ hb e
      have sN : Same (upd HI a (.dK (waysK g ks))) (upd (upd HI a (.dK (waysK g ks))) r (.tup [.ref pb, .ref pl])) := same_new nr
      refine q r pb pl ks2 _ (sE.trans sN) (.inl (.inl upd_same)) (sN _ _ ?_) dcI (sN _ _ ?_)
      · rw [upd_ne (Ne.symm ab)]
        exact hbI
      · rw [upd_ne (Ne.symm al)]
        exact hlI
end
end SG

namespace SG
open PySem PySem.Spec PyProof.Rows L2
section
variable {P : Program} {w : World} {K : PySem.W.Frag} {mg : Str → Option Value} {base : Heap}
theorem ok_tree_leaves {f f1 : Addr} {fd fd1 : FuncData} (F : Fun K "tree_leaves" "tree_leaves" s_tree_leaves f fd) (F_tossed : Fun K "tossed" "tossed" s_tossed f1 fd1) (m_tossed : mg "tossed" = some (.ref f1)) (b_tossed : Binds K fd1 ["many", "tree", "ways"] []) (T : Txt mg) : GFn P w K mg base CX0 2 f fd ["many", "tree", "depth"] (spLeaves K) := by
  have G_tossed : GFn P w K mg base CX0 1 f1 fd1 ["many", "tree", "ways"] (spTossed K) := ok_tossed F_tossed T
  refine gfun_ok F sc_tree_leaves (fun vs H Q E h => ?_) (fun cdv A outer s H vs Q E hgu hr h => ?_)
  · obtain ⟨m, p, xs, T2, d, rfl, _⟩ := h
    rfl
  · obtain ⟨m, p, xs, T2, d, rfl, hp, na, tr, m1, m6, tl, d100, q⟩ := h
    have nd := sc_tree_leaves.nd
    refine ⟨_, (pss_cons (ps_set (i := 3) nd rfl (Or.inl rfl) (pe_disp (pps_cons pe_int pe_int pps_nil) (by rfl) (by rfl) (fun z => by cases z) (by decide)))
      (pss_cons (ps_set (i := 4) nd rfl (Or.inl rfl) (pe_ifExp (pt_truth (pv 1) (by intro _; rfl)) (pe_op op_rep (pe_lst (pa_cons pe_int pa_nil)) (pv 0)) (pe_lst (pa_cons pe_int pa_nil))))
      (pss_cons (ps_for PassesOwn.never rfl (pi_range1 rfl T.range (pa_cons (pv 2) pa_nil)) (pg_name (i := 5) nd rfl (Or.inl rfl))
        (pss_one (ps_asg (pe_ifExp (pt_truth (pv 1) (by intro _; rfl)) (pe_g G_tossed hgu (hr.mono (by decide)) (by rfl) m_tossed F_tossed.kp b_tossed .nil pass0 (pa_cons (pv 0) (pa_cons (pv 1) (pa_cons (pv 3) pa_nil)))) (pe_tup (pa_cons (pv 3) (pa_cons (pe_lst (pa_cons pe_int pa_nil)) pa_nil)))) (k_tg (K := K) (n := 2) rfl (pgs_cons (pg_name (i := 3) nd rfl (Or.inl rfl)) (pgs_cons (pg_name (i := 4) nd rfl (Or.inl rfl)) pgs_nil))))))
      (pss_one (ps_ret (pe_callTy (k_tupOf (K := K)) (by rfl) T.tuple (by decide +kernel) (pa_cons (pv 4) pa_nil))))))), ?_⟩
    have lx := na.len
    have t1 := tr.1
    have ex : xs.isEmpty = false := by
      cases xs with
      | nil => exact absurd lx (fun z => by simp at z; omega)
      | cons _ _ => rfl
    refine fun p0 np0 => ⟨upd_same, [(.inl 0, .int 1)], rfl, by decide, ?_⟩
    have s1 : Same H (upd (upd H p0 (.dK [])) p0 (.dK (mergeK [] [((Sum.inl 0 : Key), V.int 1)]))) := same_upd_of (same_new np0) np0
    have h1 : upd (upd H p0 (.dK [])) p0 (.dK (mergeK [] [((Sum.inl 0 : Key), V.int 1)])) p0 = some (.dK (waysK (accN T2 0) [0])) := by
      rw [upd_same]
      rfl
    generalize upd (upd H p0 (.dK [])) p0 (.dK (mergeK [] [((Sum.inl 0 : Key), V.int 1)])) = H1 at s1 h1 ⊢
    refine ⟨_, rfl, !xs.isEmpty, .inr (.inl ⟨xs, sameT s1 hp, rfl⟩), ifT (by rw [ex]; rfl) ?_⟩
    refine zeros (n := m) (fun H3 Q3 s3 h3 => ⟨_, rfl, h3⟩) (by omega) fun pl H3 s3 npl hl3 => ?_
    have h3 := s3 _ _ h1
    have s03 := s1.trans s3
    have dc0 : DcP (accN T2 0) [0] T2.length := ⟨by simp, fun k hk => by rw [List.mem_singleton.mp hk]; omega, fun k k0 hk => by
      show (if k = 0 then (1 : Int) else 0) = 0
      rw [if_neg (fun z => hk (List.mem_singleton.mpr z))]⟩
    refine ⟨_, rfl, _, rfl, by omega, by omega, ?_⟩
    rw [show ((d : Int)).toNat = d from rfl]
    refine for_it walk_range (fun i σ HI => ∃ (b l : Addr) (ks : List Int) (y5 : Option V), σ = [some (.int (m : Nat)), some (.ref p), some (.int (d : Nat)), some (.ref b), some (.ref l), y5] ∧ Same H HI ∧ HI b = some (.dK (waysK (accN T2 i) ks)) ∧ DcP (accN T2 i) ks T2.length ∧ HI l = some (.lst (lvV T2 m i)))
      ⟨p0, pl, [0], _, rfl, s03, h3, dc0, by rw [hl3, ← rowA_zero]; rfl⟩ (fun _ _ _ _ _ => trivial) ?_ ?_
    · rintro i x σ HI HJ hi ⟨b, l, ks, y5, rfl, sI, hb, dc, hl⟩ ⟨rfl, rfl⟩
      refine ⟨_, rfl, !xs.isEmpty, .inr (.inl ⟨xs, sameT sI hp, rfl⟩), ifT (by rw [ex]; rfl) ?_⟩
      refine ⟨_, rfl, _, rfl, _, rfl, m, p, b, xs, T2, accN T2 i, ks, rfl, sameT sI hp, na.keep fun _ _ h => sameT sI h, tr, m6, tl, hb, dc, fun r b2 l2 ks2 H2 s2 hr2 hb2 dc2 hl2 => ?_⟩
      refine ⟨r, _, rfl, hr2, rfl, _, _, rfl, _, _, rfl, rfl, ?_⟩
      exact ⟨b2, l2, ks2, _, rfl, sI.trans s2, hb2, dc2, hl2⟩
    · rintro σ HI ⟨b, l, ks, y5, rfl, sI, hb, dc, hl⟩
      exact ⟨_, rfl, l, _, rfl, .inl ⟨SqL.of hl, fun r nr => q r _ (sI.trans (same_new nr)) (.inl (.inl upd_same))⟩⟩
end
end SG

namespace SG
open PySem PySem.Spec PyProof.Rows L2
section
variable {P : Program} {w : World} {K : PySem.W.Frag} {mg : Str → Option Value} {base : Heap}
def spOneT (K : PySem.W.Frag) : Sp := fun vs H Q _ => ∃ (m : Int) (x : V) (D : PyData) (n b mm t : Nat), vs = [.int m, x] ∧ Dx K H x D ∧ 0 ≤ m ∧ Sx n b mm t D ∧ n ≤ 60 ∧ b ≤ 800 ∧ mm < 10 ^ 4300 ∧ ∀ H2, Same H H2 → Q (.bl true) H2
theorem ok_one {f f1 f2 : Addr} {fd fd1 fd2 : FuncData} (hdg : base.NoDigits) (F : Fun K "_law_one_right" "_law_one_right" s__law_one_right f fd) (G__law_is_tree : GFn P w K mg base CX0 3 f1 fd1 ["_law_much", "_law_it"] (spIsTree K)) (F__law_is_tree : Fun K "_law_is_tree" "_law_is_tree" s__law_is_tree f1 fd1) (m__law_is_tree : mg "_law_is_tree" = some (.ref f1)) (b__law_is_tree : Binds K fd1 ["_law_much", "_law_it"] [])
    (G_is_tree : GFn P w K mg base CX0 3 f2 fd2 ["many", "thing"] (spIsTree K)) (F_is_tree : Fun K "is_tree" "is_tree" s_is_tree f2 fd2) (m_is_tree : mg "is_tree" = some (.ref f2)) (b_is_tree : Binds K fd2 ["many", "thing"] []) (kb_is_tree_thing_many : KBinds K fd2 ["many", "thing"] ["thing", "many"] kwTurn kwTurn) (T : Txt mg) : GFn P w K mg base CX0 4 f fd ["_law_much", "_law_it"] (spOneT K) := by
  refine gfun_ok F sc__law_one_right (fun vs H Q E h => ?_) (fun cdv A outer s H vs Q E hgu hr h => ?_)
  · obtain ⟨m, x, D, n, b, mm, t, rfl, _⟩ := h
    rfl
  · obtain ⟨m, x, D, n, b, mm, t, rfl, hd, m0, sx, n60, b800, hm, q⟩ := h
    have nd := sc__law_one_right.nd
    refine ⟨_, (pss_cons (ps_par (i := 2) (j := 3) rfl nd rfl rfl (by decide) rfl rfl (pa_cons (pe_callB (k_reprX (K := K) hdg hgu hr) (by rfl) T.repr (by decide +kernel) (pa_cons (pv 1) pa_nil)) (pa_cons (pe_g G__law_is_tree hgu (hr.mono (by decide)) (by rfl) m__law_is_tree F__law_is_tree.kp b__law_is_tree .nil pass0 (pa_cons (pv 0) (pa_cons (pv 1) pa_nil))) pa_nil)) (by rfl))
      (pss_cons (ps_set (i := 4) nd rfl (Or.inl rfl) (pe_lst (pa_cons (pe_g G_is_tree hgu (hr.mono (by decide)) (by rfl) m_is_tree F_is_tree.kp b_is_tree .nil pass0 (pa_cons (pv 0) (pa_cons (pv 1) pa_nil))) (pa_cons (pe_gK0 G_is_tree hgu (hr.mono (by decide)) (by rfl) m_is_tree F_is_tree.kp kb_is_tree_thing_many pass0 (pk_cons (pv 1) (pk_cons (pv 0) pk_nil))) pa_nil))))
      (pss_one (ps_ret (pe_and (pe_cmpR op_eq (pe_callB (k_reprX (K := K) hdg hgu hr) (by rfl) T.repr (by decide +kernel) (pa_cons (pv 4) pa_nil)) (pe_callB (k_reprX (K := K) hdg hgu hr) (by rfl) T.repr (by decide +kernel) (pa_cons (pe_lst (pa_cons (pv 3) (pa_cons (pv 3) pa_nil))) pa_nil)) (nomark _)) (pe_one (pe_cmpR op_eq (pe_callB (k_reprX (K := K) hdg hgu hr) (by rfl) T.repr (by decide +kernel) (pa_cons (pv 1) pa_nil)) (pv 2) (nomark _)))))))), ?_⟩
    have tl := (fit_told hm D sx.fit).1
    have dp : D.depth ≤ 60 := Nat.le_trans sx.dep n60
    have sh := sx.short (by omega) hm
    have bk : D.bulk ≤ 800 := Nat.le_trans sx.bulk b800
    refine ⟨_, rfl, x, D, rfl, hd, tl, dp, sh, _, rfl, _, rfl, m, x, D, rfl, hd, m0, bk, fun H2 s2 => ⟨_, _, rfl, ?_⟩⟩
    refine ⟨_, rfl, _, rfl, m, x, D, rfl, dx_same s2 hd, m0, bk, fun H3 s3 => ?_⟩
    have s23 := s2.trans s3
    refine ⟨_, rfl, _, rfl, m, x, D, rfl, dx_same s23 hd, m0, bk, fun H4 s4 => ⟨by show 2 ≤ sizeLine; decide, fun pt npt => ?_⟩⟩
    have s24 := s23.trans s4
    generalize isTreeD m D = kk
    have s5 : Same H4 (upd H4 pt (.lst [.bl kk, .bl kk])) := same_new npt
    have hpt : upd H4 pt (.lst [.bl kk, .bl kk]) pt = some (.lst [.bl kk, .bl kk]) := upd_same
    have s25 := s24.trans s5
    generalize upd H4 pt (.lst [.bl kk, .bl kk]) = H5 at s5 hpt s25 ⊢
    have sb : Sx 1 2 0 0 (.list [.bool kk, .bool kk]) := ((SxA.one (n := 0) (b := 0) (m := 0) (t := 0) (Sx.bool kk)).app (SxA.one (b := 0) (Sx.bool kk))).list
    have hm0 : 0 < 10 ^ 4300 := by decide +kernel
    have db : ∀ {H : Hp} {p : Addr}, H p = some (.lst [.bl kk, .bl kk]) → Dx K H (.ref p) (.list [.bool kk, .bool kk]) := fun h => .lst (SqL.of h) (.cons (.bl _) (.cons (.bl _) .nil))
    refine ⟨_, rfl, _, _, rfl, db hpt, (fit_told hm0 _ sb.fit).1, Nat.le_trans sb.dep (by decide), sb.short (by decide) hm0, _, rfl, _, rfl, by show 2 ≤ sizeLine; decide, fun p6 np6 => ?_⟩
    refine ⟨_, _, rfl, db upd_same, (fit_told hm0 _ sb.fit).1, Nat.le_trans sb.dep (by decide), sb.short (by decide) hm0, rfl, ?_⟩
    have s26 := s25.trans (same_new (o := .lst [.bl kk, .bl kk]) np6)
    refine ⟨_, rfl, ifT (by simp) ⟨_, rfl, x, D, rfl, dx_same s26 hd, tl, dp, sh, _, rfl, rfl, ?_⟩⟩
    rw [decide_eq_true rfl]
    exact q _ s26
end
end SG

namespace SG
open PySem PySem.Spec PyProof.Rows L2
def toD : V → PyData
  | .int i => .int i
  | .str t => .str t
  | _ => .none
/-- a number to 10 ** 60, or a short text -/
def Sc (z : V) : Prop := (∃ i : Int, z = .int i ∧ i.natAbs ≤ 10 ^ 60) ∨ ∃ t : Str, z = .str t ∧ (t.cps.toList.all fun c => decide (c < 128)) = true ∧ t.length ≤ 10
section
variable {K : PySem.W.Frag}
theorem sc_dx {H : Hp} : ∀ {zs : List V}, (∀ z ∈ zs, Sc z) → DxAll K H zs (zs.map toD)
  | [], _ => .nil
  | z :: r, h => by
    have ih := sc_dx (H := H) (zs := r) fun x hx => h x (List.mem_cons_of_mem _ hx)
    rcases h z List.mem_cons_self with ⟨i, rfl, _⟩ | ⟨t, rfl, _⟩
    · exact .cons (.int i) ih
    · exact .cons (.str t) ih
end
theorem sc_sx : ∀ {zs : List V}, (∀ z ∈ zs, Sc z) → SxA 0 (11 * zs.length) (10 ^ 60) 10 (zs.map toD)
  | [], _ => .nil
  | z :: r, h => by
    have ih := sc_sx (zs := r) fun x hx => h x (List.mem_cons_of_mem _ hx)
    have one : SxA 0 (10 + 1) (10 ^ 60) 10 [toD z] := by
      rcases h z List.mem_cons_self with ⟨i, rfl, hi⟩ | ⟨t, rfl, ht, hl⟩
      · exact .one (Sx.int hi)
      · exact .one (Sx.str (asc_lit t ht) hl hl)
    have z := one.app ih
    refine z.mono (Nat.le_refl _) ?_ (Nat.le_refl _) (Nat.le_refl _)
    rw [List.length_cons]
    omega
theorem go_sc {m : Int} {T : List (Int × Int)} (tr : TreeT m T) (hm : 0 ≤ m) (m6 : m ≤ 1000) (tl : T.length ≤ 1000) : ∀ (gs : List Nat) (a : Int) (u : Nat), 0 ≤ a → a < T.length → gs.length + u ≤ 1000 → (∀ z ∈ goV T a u gs, Sc z) ∧ (goV T a u gs).length ≤ 3
  | [], a, u, a0, a1, hu => by
    refine ⟨fun z hz => ?_, by show 2 ≤ 3; decide⟩
    have hz : z ∈ [V.str "at", V.int a] := hz
    rcases List.mem_cons.mp hz with rfl | hz
    · exact .inr ⟨_, rfl, by decide +kernel, by decide +kernel⟩
    · rw [List.mem_singleton.mp hz]
      exact .inl ⟨a, rfl, Nat.le_trans (show a.natAbs ≤ 1000 by omega) (by decide +kernel)⟩
  | g :: r, a, u, a0, a1, hu => by
    have so := side_ok tr a0 a1 g
    unfold OkS at so
    rw [List.length_cons] at hu
    unfold goV
    split
    · rename_i hneg
      refine ⟨fun z hz => ?_, by show 3 ≤ 3; decide⟩
      rcases List.mem_cons.mp hz with rfl | hz
      · exact .inr ⟨_, rfl, by decide +kernel, by decide +kernel⟩
      · rcases List.mem_cons.mp hz with rfl | hz
        · exact .inl ⟨_, rfl, Nat.le_trans (show (-1 - sideW T a g).natAbs ≤ 1000 by omega) (by decide +kernel)⟩
        · rw [List.mem_singleton.mp hz]
          exact .inl ⟨_, rfl, Nat.le_trans (show ((u + 1 : Nat) : Int).natAbs ≤ 1000 by omega) (by decide +kernel)⟩
    · rename_i hneg
      exact go_sc tr hm m6 tl r _ _ (by omega) so.2 (by omega)
theorem sum_bound {B : Nat} : ∀ {l : List Int} {f : Int → Int}, (∀ k ∈ l, (f k).natAbs ≤ B) → (l.map f).sum.natAbs ≤ l.length * B
  | [], _, _ => by simp
  | a :: r, f, h => by
    have ih := sum_bound (l := r) (f := f) fun k hk => h k (List.mem_cons_of_mem _ hk)
    have h1 := h a List.mem_cons_self
    rw [List.map_cons, List.sum_cons, List.length_cons, Nat.add_mul, Nat.one_mul]
    have := Int.natAbs_add_le (f a) (r.map f).sum
    omega
theorem acc_bound {T : List (Int × Int)} : ∀ (d : Nat) (x : Int), (accN T d x).natAbs ≤ (2 * T.length) ^ d
  | 0, x => by
    show (if x = 0 then (1 : Int) else 0).natAbs ≤ 1
    split <;> decide
  | d + 1, x => by
    have z := sum_bound (B := 2 * (2 * T.length) ^ d) (l := rgN T.length) (f := fun k => accN T d k * cnt (nodeT T k) x) fun k _ => by
      rw [Int.natAbs_mul, Nat.mul_comm]
      refine Nat.mul_le_mul ?_ (acc_bound d k)
      unfold cnt
      split <;> split <;> decide
    rw [rgN_len] at z
    refine Nat.le_trans z ?_
    rw [Nat.pow_succ, Nat.mul_comm ((2 * T.length) ^ d), Nat.mul_assoc, Nat.mul_left_comm]
    exact Nat.le_refl _
theorem lv_sc {T : List (Int × Int)} {m d : Nat} (tl : T.length ≤ 12) (hd : d ≤ 41) : ∀ z ∈ lvV T m d, Sc z := by
  intro z hz
  unfold lvV rowA at hz
  obtain ⟨i, _, rfl⟩ := List.mem_map.mp hz
  refine .inl ⟨_, rfl, ?_⟩
  split
  · exact Nat.zero_le _
  · refine Nat.le_trans (acc_bound d _) ?_
    refine Nat.le_trans (Nat.pow_le_pow_left (show 2 * T.length ≤ 24 by omega) d) ?_
    exact Nat.le_trans (Nat.pow_le_pow_right (by decide) hd) (by decide +kernel)
end SG

namespace SG
open PySem PySem.Spec PyProof.Rows L2
open SX (S)
section
variable {P : Program} {w : World} {K : PySem.W.Frag} {mg : Str → Option Value} {base : Heap}
def spTold (K : PySem.W.Frag) : Sp := fun vs H Q _ => ∃ (d l : Addr) (c m : Nat) (p : Addr) (xs : List V) (T : List (Int × Int)), vs = [.ref d, .int (m : Nat), .ref p] ∧ Dek H d l c ∧ c < 800000 ∧ SqT K H p xs ∧ NdAt K H xs T ∧ TreeT m T ∧ 1 ≤ m ∧ m ≤ 6 ∧ T.length ≤ 12 ∧ ∀ H2, Dek H2 d l (c + 200) → Kept d l H H2 → Q (.bl true) H2
/-- two of the same texts -/
theorem told_dx {H : Hp} {p r1 r2 : Addr} {zs : List V} (h : H p = some (.lst [.ref r1, .ref r2])) (h1 : SqT K H r1 zs) (h2 : SqT K H r2 zs) (sc : ∀ z ∈ zs, Sc z) : Dx K H (.ref p) (.list [.tuple (zs.map toD), .tuple (zs.map toD)]) := .lst (SqL.of h) (.cons (.tup h1 (sc_dx sc)) (.cons (.tup h2 (sc_dx sc)) .nil))
theorem told_sx {zs : List V} (sc : ∀ z ∈ zs, Sc z) (hl : zs.length ≤ 10) : Sx 2 400 (10 ^ 60) 10 (.list [.tuple (zs.map toD), .tuple (zs.map toD)]) := by
  have z := (sc_sx sc).tuple
  refine ((SxA.one z).app (SxA.one z)).list.mono (Nat.le_refl _) (by omega) (Nat.le_refl _) (Nat.le_refl _)
theorem ok_told {f f1 f2 f3 f4 f5 f6 : Addr} {fd fd1 fd2 fd3 fd4 fd5 fd6 : FuncData} (hdg : base.NoDigits) (F : Fun K "_law_told_right" "_law_told_right" s__law_told_right f fd)
    (G__law_tosses : GFn P w K mg base CX0 3 f1 fd1 ["_law_deck_here", "_law_limit"] (spTosses K)) (F__law_tosses : Fun K "_law_tosses" "_law_tosses" s__law_tosses f1 fd1) (m__law_tosses : mg "_law_tosses" = some (.ref f1)) (b__law_tosses : Binds K fd1 ["_law_deck_here", "_law_limit"] [])
    (G_walked : GFn P w K mg base CX0 1 f2 fd2 ["many", "tree", "tosses"] (spWalked K)) (F_walked : Fun K "walked" "walked" s_walked f2 fd2) (m_walked : mg "walked" = some (.ref f2)) (b_walked : Binds K fd2 ["many", "tree", "tosses"] []) (kb_walked_tosses_tree_many : KBinds K fd2 ["many", "tree", "tosses"] ["tosses", "tree", "many"] kwThree kwThree)
    (G__law_due : GFn P w K mg base CX0 1 f3 fd3 ["_law_nodes", "_law_flips"] (spDueW K)) (F__law_due : Fun K "_law_due" "_law_due" s__law_due f3 fd3) (m__law_due : mg "_law_due" = some (.ref f3)) (b__law_due : Binds K fd3 ["_law_nodes", "_law_flips"] [])
    (G__law_draw : GFn P w K mg base CX0 1 f4 fd4 ["_law_deck_here", "_law_much"] spDraw) (F__law_draw : Fun K "_law_draw" "_law_draw" s__law_draw f4 fd4) (m__law_draw : mg "_law_draw" = some (.ref f4)) (b__law_draw : Binds K fd4 ["_law_deck_here", "_law_much"] [])
    (G_tree_leaves : GFn P w K mg base CX0 2 f5 fd5 ["many", "tree", "depth"] (spLeaves K)) (F_tree_leaves : Fun K "tree_leaves" "tree_leaves" s_tree_leaves f5 fd5) (m_tree_leaves : mg "tree_leaves" = some (.ref f5)) (b_tree_leaves : Binds K fd5 ["many", "tree", "depth"] []) (kb_tree_leaves_depth_tree_many : KBinds K fd5 ["many", "tree", "depth"] ["depth", "tree", "many"] kwThree kwThree)
    (G__law_leaves : GFn P w K mg base CX0 1 f6 fd6 ["_law_much", "_law_nodes", "_law_level"] (spLeaves K)) (F__law_leaves : Fun K "_law_leaves" "_law_leaves" s__law_leaves f6 fd6) (m__law_leaves : mg "_law_leaves" = some (.ref f6)) (b__law_leaves : Binds K fd6 ["_law_much", "_law_nodes", "_law_level"] []) (T : Txt mg) : GFn P w K mg base CX0 4 f fd ["_law_deck_here", "_law_much", "_law_nodes"] (spTold K) := by
  refine gfun_ok F sc__law_told_right (fun vs H Q E h => ?_) (fun cdv A outer s H vs Q E hgu hr h => ?_)
  · obtain ⟨d, l, c, m, p, xs, T2, rfl, _⟩ := h
    rfl
  · obtain ⟨d, l, c, m, p, xs, T2, rfl, Dk, hc, hp, na, tr, m1, m6, t12, q⟩ := h
    have nd := sc__law_told_right.nd
    refine ⟨_, (pss_cons (ps_for PassesOwn.never rfl (pi_range1 rfl T.range (pa_cons pe_int pa_nil)) (pg_name (i := 3) nd rfl (Or.inl rfl))
        (pss_cons (ps_set (i := 4) nd rfl (Or.inl rfl) (pe_g G__law_tosses hgu (hr.mono (by decide)) (by rfl) m__law_tosses F__law_tosses.kp b__law_tosses .nil pass0 (pa_cons (pv 0) (pa_cons pe_int pa_nil))))
      (pss_cons (ps_set (i := 5) nd rfl (Or.inl rfl) (pe_lst (pa_cons (pe_g G_walked hgu (hr.mono (by decide)) (by rfl) m_walked F_walked.kp b_walked .nil pass0 (pa_cons (pv 1) (pa_cons (pv 2) (pa_cons (pv 4) pa_nil)))) (pa_cons (pe_gK0 G_walked hgu (hr.mono (by decide)) (by rfl) m_walked F_walked.kp kb_walked_tosses_tree_many pass0 (pk_cons (pv 4) (pk_cons (pv 2) (pk_cons (pv 1) pk_nil)))) pa_nil))))
      (pss_one (ps_if (pt_cmpR op_ne (pe_callB (k_reprX (K := K) hdg hgu hr) (by rfl) T.repr (by decide +kernel) (pa_cons (pv 5) pa_nil)) (pe_callB (k_reprX (K := K) hdg hgu hr) (by rfl) T.repr (by decide +kernel) (pa_cons (pe_op op_rep (pe_lst (pa_cons (pe_g G__law_due hgu (hr.mono (by decide)) (by rfl) m__law_due F__law_due.kp b__law_due .nil pass0 (pa_cons (pv 2) (pa_cons (pv 4) pa_nil))) pa_nil)) pe_int) pa_nil)) (nomark _)) (pss_one (ps_ret pe_bl)) pss_nil)))))
      (pss_cons (ps_for PassesOwn.never rfl (pi_tup (pe_tup (pa_cons pe_int (pa_cons pe_int (pa_cons (pe_g G__law_draw hgu (hr.mono (by decide)) (by rfl) m__law_draw F__law_draw.kp b__law_draw .nil pass0 (pa_cons (pv 0) (pa_cons pe_int pa_nil))) (pa_cons (pe_g G__law_draw hgu (hr.mono (by decide)) (by rfl) m__law_draw F__law_draw.kp b__law_draw .nil pass0 (pa_cons (pv 0) (pa_cons pe_int pa_nil))) pa_nil)))))) (pg_name (i := 6) nd rfl (Or.inl rfl))
        (pss_cons (ps_set (i := 5) nd rfl (Or.inl rfl) (pe_lst (pa_cons (pe_g G_tree_leaves hgu (hr.mono (by decide)) (by rfl) m_tree_leaves F_tree_leaves.kp b_tree_leaves .nil pass0 (pa_cons (pv 1) (pa_cons (pv 2) (pa_cons (pv 6) pa_nil)))) (pa_cons (pe_gK0 G_tree_leaves hgu (hr.mono (by decide)) (by rfl) m_tree_leaves F_tree_leaves.kp kb_tree_leaves_depth_tree_many pass0 (pk_cons (pv 6) (pk_cons (pv 2) (pk_cons (pv 1) pk_nil)))) pa_nil))))
      (pss_one (ps_if (pt_cmpR op_ne (pe_callB (k_reprX (K := K) hdg hgu hr) (by rfl) T.repr (by decide +kernel) (pa_cons (pv 5) pa_nil)) (pe_callB (k_reprX (K := K) hdg hgu hr) (by rfl) T.repr (by decide +kernel) (pa_cons (pe_op op_rep (pe_lst (pa_cons (pe_g G__law_leaves hgu (hr.mono (by decide)) (by rfl) m__law_leaves F__law_leaves.kp b__law_leaves .nil pass0 (pa_cons (pv 1) (pa_cons (pv 2) (pa_cons (pv 6) pa_nil)))) pa_nil)) pe_int) pa_nil)) (nomark _)) (pss_one (ps_ret pe_bl)) pss_nil))))
      (pss_one (ps_ret pe_bl)))), ?_⟩
    have t1 := tr.1
    have hm : 10 ^ 60 < 10 ^ 4300 := Nat.pow_lt_pow_right (by decide) (by decide)
    refine ⟨_, rfl, by decide, by decide, ?_⟩
    refine for_it walk_range (fun i σ HI => ∃ (y3 y4 y5 : Option V), σ = [some (.ref d), some (.int (m : Nat)), some (.ref p), y3, y4, y5, none] ∧ Dek HI d l (c + 40 * i) ∧ Kept d l H HI) ⟨_, _, _, rfl, Dk, .refl _ _ _⟩ (fun _ _ _ _ _ => trivial) ?_ ?_
    · rintro i x σ HI HJ hi ⟨y3, y4, y5, rfl, dk, k⟩ ⟨rfl, rfl⟩
      have hi : i < 3 := hi
      refine ⟨_, rfl, d, l, c + 40 * i, 30, rfl, dk, by omega, by decide, fun gs H2 gl bits dk2 k2 => ?_⟩
      have k02 := k.trans k2
      have hp2 := k02.tupG Dk hp
      have na2 := na.keep fun _ _ h => k02.tupG Dk h
      obtain ⟨sc, sl⟩ := go_sc tr (by omega) (by omega) (by omega) gs 0 0 (by omega) (by omega) (by omega)
      generalize hz : goV T2 0 0 gs = zs at sc sl
      have sx := told_sx sc (by omega)
      have tl := (fit_told hm _ sx.fit).1
      have dp := Nat.le_trans sx.dep (show 2 ≤ 60 by decide)
      have sh := sx.short (by decide) hm
      refine ⟨_, rfl, _, rfl, _, rfl, m, p, xs, T2, gs, rfl, hp2, na2, tr, bits, by omega, fun r1 H3 s3 h3 => ?_⟩
      refine ⟨_, rfl, _, rfl, _, rfl, m, p, xs, T2, gs, rfl, sameT s3 hp2, na2.keep fun _ _ h => sameT s3 h, tr, bits, by omega, fun r2 H4 s4 h4 => ⟨by show 2 ≤ sizeLine; decide, fun pt npt => ?_⟩⟩
      rw [hz] at h3 h4
      have s5 : Same H4 (upd H4 pt (.lst [.ref r1, .ref r2])) := same_new npt
      have h5 : upd H4 pt (.lst [.ref r1, .ref r2]) pt = some (.lst [.ref r1, .ref r2]) := upd_same
      have d5 := told_dx h5 (sameT (s4.trans s5) h3) (sameT s5 h4) sc
      have s35 := s3.trans (s4.trans s5)
      generalize upd H4 pt (.lst [.ref r1, .ref r2]) = H5 at d5 s35 ⊢
      refine ⟨_, rfl, _, _, rfl, d5, tl, dp, sh, _, rfl, _, rfl, m, p, xs, T2, gs, rfl, sameT s35 hp2, na2.keep fun _ _ h => sameT s35 h, tr, bits, by omega, fun r3 H6 s6 h6 => ⟨by show 1 ≤ sizeLine; decide, fun p6 np6 => ?_⟩⟩
      rw [hz] at h6
      refine ⟨p6, 2, [.ref r3], rfl, rfl, upd_same, by decide, by decide, by show 1 * 2 ≤ sizeLine; decide, fun p7 np7 => ?_⟩
      have s7 := (same_new (o := .lst [.ref r3]) np6).trans (same_new (o := .lst (List.replicate (Int.toNat 2) [V.ref r3]).flatten) np7)
      have h77 : upd (upd H6 p6 (.lst [.ref r3])) p7 (.lst (List.replicate (Int.toNat 2) [V.ref r3]).flatten) p7 = some (.lst [.ref r3, .ref r3]) := upd_same
      refine ⟨_, _, rfl, told_dx h77 (sameT s7 h6) (sameT s7 h6) sc, tl, dp, sh, rfl, _, rfl, ifF (by simp) ?_⟩
      have sF := s35.trans (s6.trans s7)
      exact ⟨_, _, _, rfl, Dek.mono (Dek.same dk2 sF) (by omega), k02.trans (.of sF)⟩
    · rintro σ HI ⟨y3, y4, y5, rfl, dk, k⟩
      refine ⟨_, rfl, d, l, _, 8, rfl, dk, by omega, by decide, by decide, fun q1 H2 q10 q11 dk2 k2 => ?_⟩
      refine ⟨_, rfl, d, l, _, 41, rfl, dk2, by omega, by decide, by decide, fun q2 H3 q20 q21 dk3 k3 => ⟨by show 4 ≤ sizeLine; decide, fun pt npt => ?_⟩⟩
      have s4 : Same H3 (upd H3 pt (.tup ([0, 1, q1, q2].map V.int))) := same_new npt
      have h4 : upd H3 pt (.tup ([0, 1, q1, q2].map V.int)) pt = some (.tup ([0, 1, q1, q2].map V.int)) := upd_same
      have e4 : upd H3 pt (.tup [.int 0, .int 1, .int q1, .int q2]) = upd H3 pt (.tup ([0, 1, q1, q2].map V.int)) := rfl
      rw [e4]
      have k04 := (k.trans (k2.trans k3)).trans (.of s4)
      have dk4 := Dek.same dk3 s4
      generalize upd H3 pt (.tup ([0, 1, q1, q2].map V.int)) = H4 at h4 k04 dk4 ⊢
      have hp4 := k04.tupG Dk hp
      have na4 := na.keep fun _ _ h => k04.tupG Dk h
      refine ⟨pt, rfl, ⟨_, .inl (.inl h4)⟩, for_it (walk_tup (K := K) (a := pt) (xs := [0, 1, q1, q2].map V.int)) (fun j σ HM => ∃ (y5 y6 : Option V), σ = [some (.ref d), some (.int (m : Nat)), some (.ref p), y3, y4, y5, y6] ∧ Same H4 HM) ⟨_, _, rfl, Same.refl _⟩ (fun j σ HM _ ⟨_, _, _, s⟩ => sameT s (.inl (.inl h4))) ?_ ?_⟩
      · rintro j v σ HM HN hj ⟨y5, y6, rfl, sM⟩ ⟨rfl, hv⟩
        obtain ⟨lv, rfl, hlv⟩ := get_int hv
        obtain ⟨dn, rfl, d41⟩ : ∃ dn : Nat, lv = (dn : Nat) ∧ dn ≤ 41 := by
          have hmem := List.mem_of_getElem? hlv
          refine ⟨lv.toNat, ?_, ?_⟩ <;> (rcases List.mem_cons.mp hmem with rfl | hmem <;> first | omega | (rcases List.mem_cons.mp hmem with rfl | hmem <;> first | omega | (rcases List.mem_cons.mp hmem with rfl | hmem <;> first | omega | (rw [List.mem_singleton.mp hmem]; omega))))
        have sc := lv_sc (T := T2) (m := m) t12 d41
        have sl : (lvV T2 m dn).length = m := by unfold lvV; rw [rowA_len]
        have hpM := sameT sM hp4
        have naM := na4.keep fun _ _ h => sameT sM h
        generalize hz : lvV T2 m dn = zs at sc sl
        have sx := told_sx sc (by omega)
        have tl := (fit_told hm _ sx.fit).1
        have dp := Nat.le_trans sx.dep (show 2 ≤ 60 by decide)
        have sh := sx.short (by decide) hm
        refine ⟨_, rfl, _, rfl, _, rfl, m, p, xs, T2, dn, rfl, hpM, naM, tr, m1, m6, by omega, by omega, fun r1 H5 s5 h5 => ?_⟩
        refine ⟨_, rfl, _, rfl, _, rfl, m, p, xs, T2, dn, rfl, sameT s5 hpM, naM.keep fun _ _ h => sameT s5 h, tr, m1, m6, by omega, by omega, fun r2 H6 s6 h6 => ⟨by show 2 ≤ sizeLine; decide, fun pu npu => ?_⟩⟩
        rw [hz] at h5 h6
        have s7 : Same H6 (upd H6 pu (.lst [.ref r1, .ref r2])) := same_new npu
        have h7 : upd H6 pu (.lst [.ref r1, .ref r2]) pu = some (.lst [.ref r1, .ref r2]) := upd_same
        have d7 := told_dx h7 (sameT (s6.trans s7) h5) (sameT s7 h6) sc
        have s57 := s5.trans (s6.trans s7)
        generalize upd H6 pu (.lst [.ref r1, .ref r2]) = H7 at d7 s57 ⊢
        refine ⟨_, rfl, _, _, rfl, d7, tl, dp, sh, _, rfl, _, rfl, _, rfl, m, p, xs, T2, dn, rfl, sameT s57 hpM, naM.keep fun _ _ h => sameT s57 h, tr, m1, m6, by omega, by omega, fun r3 H8 s8 h8 => ⟨by show 1 ≤ sizeLine; decide, fun p6 np6 => ?_⟩⟩
        rw [hz] at h8
        refine ⟨p6, 2, [.ref r3], rfl, rfl, upd_same, by decide, by decide, by show 1 * 2 ≤ sizeLine; decide, fun p7 np7 => ?_⟩
        have s9 := (same_new (o := .lst [.ref r3]) np6).trans (same_new (o := .lst (List.replicate (Int.toNat 2) [V.ref r3]).flatten) np7)
        have h99 : upd (upd H8 p6 (.lst [.ref r3])) p7 (.lst (List.replicate (Int.toNat 2) [V.ref r3]).flatten) p7 = some (.lst [.ref r3, .ref r3]) := upd_same
        refine ⟨_, _, rfl, told_dx h99 (sameT s9 h8) (sameT s9 h8) sc, tl, dp, sh, rfl, _, rfl, ifF (by simp) ?_⟩
        exact ⟨_, _, rfl, sM.trans (s57.trans (s8.trans s9))⟩
      · rintro σ HM ⟨y5, y6, rfl, sM⟩
        exact (q HM (Dek.mono (Dek.same dk4 sM) (by omega)) (k04.trans (.of sM)))
end
end SG

namespace SG
open PySem PySem.Spec PyProof.Rows L2
open SX (S)
section
variable {P : Program} {w : World} {K : PySem.W.Frag} {mg : Str → Option Value} {base : Heap}
def spWalked0 (K : PySem.W.Frag) : Sp := fun vs H Q _ => ∃ (m : Int) (p : Addr) (z : Str), vs = [.int m, .ref p, .str z] ∧ SqT K H p [] ∧ ∀ (r : Addr) (H2 : Hp), Same H H2 → SqT K H2 r [.str "drawn", .int 0, .int 0] → Q (.ref r) H2
theorem ok_walked0 {f : Addr} {fd : FuncData} (F : Fun K "walked" "walked" s_walked f fd) (T : Txt mg) : GFn P w K mg base CX0 1 f fd ["many", "tree", "tosses"] (spWalked0 K) := by
  refine gfun_ok F sc_walked (fun vs H Q E h => ?_) (fun cdv A outer s H vs Q E hgu hr h => ?_)
  · obtain ⟨m, p, z, rfl, _⟩ := h
    rfl
  · obtain ⟨m, p, z, rfl, hp, q⟩ := h
    have nd := sc_walked.nd
    refine ⟨_, (pss_cons (ps_if (pt_not (pt_truth (pv 1) (by intro _; rfl))) (pss_one (ps_ret (pe_tup (pa_cons pe_str (pa_cons pe_int (pa_cons pe_int pa_nil)))))) pss_nil)
      (pss_cons (ps_set (i := 3) nd rfl (Or.inl rfl) pe_int)
      (pss_cons (ps_for PassesOwn.never rfl (pi_enumS (by rfl) T.enumerate (pa_cons (pv 2) pa_nil) (pk_cons pe_int pk_nil)) (k_tg (K := K) (n := 2) rfl (pgs_cons (pg_name (i := 4) nd rfl (Or.inl rfl)) (pgs_cons (pg_name (i := 5) nd rfl (Or.inl rfl)) pgs_nil)))
        (pss_cons (ps_set (i := 3) nd rfl (Or.inl rfl) (pe_ix (k_ixT (K := K)) (pe_ix (k_ixT (K := K)) (pv 1) (pv 3) (fun _ _ => rfl)) (pe_ifExp (pt_cmpR op_eq (pv 5) pe_str (nomark _)) pe_int pe_int) (fun _ _ => rfl)))
      (pss_one (ps_if (pt_cmpR op_lt (pv 3) pe_int (nomark _)) (pss_one (ps_ret (pe_tup (pa_cons pe_str (pa_cons (pe_op op_sub (pe_un un_neg pe_int) (pv 3)) (pa_cons (pv 4) pa_nil)))))) pss_nil))))
      (pss_one (ps_ret (pe_tup (pa_cons pe_str (pa_cons (pv 3) pa_nil)))))))), ?_⟩
    refine ⟨_, rfl, false, .inr (.inl ⟨[], hp, rfl⟩), ifT (by rfl) ⟨by show 3 ≤ sizeLine; decide, fun r nr => q r _ (same_new nr) (.inl (.inl upd_same))⟩⟩
def spLeaves0 (K : PySem.W.Frag) : Sp := fun vs H Q _ => ∃ (m : Int) (p : Addr) (d : Nat), vs = [.int m, .ref p, .int (d : Nat)] ∧ SqT K H p [] ∧ d ≤ 100 ∧ ∀ (r : Addr) (H2 : Hp), Same H H2 → SqT K H2 r [.int (if d = 0 then 1 else 0)] → Q (.ref r) H2
theorem ok_leaves0 {f f1 : Addr} {fd fd1 : FuncData} (F : Fun K "tree_leaves" "tree_leaves" s_tree_leaves f fd) (F_tossed : Fun K "tossed" "tossed" s_tossed f1 fd1) (m_tossed : mg "tossed" = some (.ref f1)) (b_tossed : Binds K fd1 ["many", "tree", "ways"] []) (T : Txt mg) : GFn P w K mg base CX0 2 f fd ["many", "tree", "depth"] (spLeaves0 K) := by
  have G_tossed : GFn P w K mg base CX0 1 f1 fd1 ["many", "tree", "ways"] (spTossed K) := ok_tossed F_tossed T
  refine gfun_ok F sc_tree_leaves (fun vs H Q E h => ?_) (fun cdv A outer s H vs Q E hgu hr h => ?_)
  · obtain ⟨m, p, d, rfl, _⟩ := h
    rfl
  · obtain ⟨m, p, d, rfl, hp, d100, q⟩ := h
    have nd := sc_tree_leaves.nd
    refine ⟨_, (pss_cons (ps_set (i := 3) nd rfl (Or.inl rfl) (pe_disp (pps_cons pe_int pe_int pps_nil) (by rfl) (by rfl) (fun z => by cases z) (by decide)))
      (pss_cons (ps_set (i := 4) nd rfl (Or.inl rfl) (pe_ifExp (pt_truth (pv 1) (by intro _; rfl)) (pe_op op_rep (pe_lst (pa_cons pe_int pa_nil)) (pv 0)) (pe_lst (pa_cons pe_int pa_nil))))
      (pss_cons (ps_for PassesOwn.never rfl (pi_range1 rfl T.range (pa_cons (pv 2) pa_nil)) (pg_name (i := 5) nd rfl (Or.inl rfl))
        (pss_one (ps_asg (pe_ifExp (pt_truth (pv 1) (by intro _; rfl)) (pe_g G_tossed hgu (hr.mono (by decide)) (by rfl) m_tossed F_tossed.kp b_tossed .nil pass0 (pa_cons (pv 0) (pa_cons (pv 1) (pa_cons (pv 3) pa_nil)))) (pe_tup (pa_cons (pv 3) (pa_cons (pe_lst (pa_cons pe_int pa_nil)) pa_nil)))) (k_tg (K := K) (n := 2) rfl (pgs_cons (pg_name (i := 3) nd rfl (Or.inl rfl)) (pgs_cons (pg_name (i := 4) nd rfl (Or.inl rfl)) pgs_nil))))))
      (pss_one (ps_ret (pe_callTy (k_tupOf (K := K)) (by rfl) T.tuple (by decide +kernel) (pa_cons (pv 4) pa_nil))))))), ?_⟩
    refine fun p0 np0 => ⟨upd_same, [(.inl 0, .int 1)], rfl, by decide, ?_⟩
    have s1 : Same H (upd (upd H p0 (.dK [])) p0 (.dK (mergeK [] [((Sum.inl 0 : Key), V.int 1)]))) := same_upd_of (same_new np0) np0
    generalize upd (upd H p0 (.dK [])) p0 (.dK (mergeK [] [((Sum.inl 0 : Key), V.int 1)])) = H1 at s1 ⊢
    refine ⟨_, rfl, false, .inr (.inl ⟨[], sameT s1 hp, rfl⟩), ifF (by rfl) ⟨by show 1 ≤ sizeLine; decide, fun pl npl => ?_⟩⟩
    have s2 := s1.trans (same_new (o := .lst [.int 1]) npl)
    have h2 : upd H1 pl (.lst [.int 1]) pl = some (.lst [.int (if 0 = 0 then 1 else 0)]) := upd_same
    generalize upd H1 pl (.lst [.int 1]) = H2 at s2 h2 ⊢
    refine ⟨_, rfl, _, rfl, by omega, by omega, ?_⟩
    rw [show ((d : Int)).toNat = d from rfl]
    refine for_it walk_range (fun i σ HI => ∃ (l : Addr) (y5 : Option V), σ = [some (.int m), some (.ref p), some (.int (d : Nat)), some (.ref p0), some (.ref l), y5] ∧ Same H HI ∧ HI l = some (.lst [.int (if i = 0 then 1 else 0)])) ⟨pl, _, rfl, s2, h2⟩ (fun _ _ _ _ _ => trivial) ?_ ?_
    · rintro i x σ HI HJ hi ⟨l, y5, rfl, sI, hl⟩ ⟨rfl, rfl⟩
      refine ⟨_, rfl, false, .inr (.inl ⟨[], sameT sI hp, rfl⟩), ifF (by rfl) ⟨_, rfl, by show 1 ≤ sizeLine; decide, fun p2 np2 => ⟨by show 2 ≤ sizeLine; decide, fun pt npt => ⟨pt, _, rfl, .inl (.inl upd_same), rfl, _, _, rfl, _, _, rfl, rfl, ?_⟩⟩⟩⟩
      refine ⟨p2, _, rfl, sI.trans ((same_new np2).trans (same_new npt)), ?_⟩
      rw [upd_ne (ne_of_none (upd_same (H := HJ) (a := p2)) npt), upd_same, if_neg (by omega)]
    · rintro σ HI ⟨l, y5, rfl, sI, hl⟩
      exact ⟨_, rfl, l, _, rfl, .inl ⟨SqL.of hl, fun r nr => q r _ (sI.trans (same_new nr)) (.inl (.inl upd_same))⟩⟩
end
end SG

namespace SG
open PySem PySem.Spec PyProof.Rows L2
open SX (S)
section
variable {P : Program} {w : World} {K : PySem.W.Frag} {mg : Str → Option Value} {base : Heap}
theorem wipe_other {σ : L2.St} {i s : Nat} {x : V} (h : i ≠ s) (e : σ[i]? = some (some x)) : (wipe σ [s])[i]? = some (some x) := by
  show (σ.set s none)[i]? = _
  rw [List.getElem?_set_ne (Ne.symm h)]
  exact e
theorem sx_ints2 {m t : Nat} {ns : List Int} (h : ∀ k ∈ ns, k.natAbs ≤ m) : SxA 0 ns.length m t (dI ns) := by
  refine ⟨fun D hD => ?_, by rw [bulk_ints]; exact Nat.le_refl _, fun D hD => ?_⟩
  · obtain ⟨k, _, rfl⟩ := List.mem_map.mp hD
    simp [PyData.depth]
  · obtain ⟨k, hk, rfl⟩ := List.mem_map.mp hD
    simp only [fitD]
    exact decide_eq_true (h k hk)
theorem NdAt.dy {d l : Addr} {H : Hp} : ∀ {xs : List V} {T : List (Int × Int)}, NdAt K H xs T → DyAll K d l H xs (T.map fun q => PyData.tuple (dI [q.1, q.2]))
  | _, _, .nil => .nil
  | _, _, .cons ⟨a, e, h⟩ r => by
    subst e
    exact .cons (.tup h (dyA_ints [_, _])) (NdAt.dy r)
theorem tree_sx {m : Int} {mm t : Nat} {n : Nat} (hm : 0 ≤ m) (h1 : m ≤ 100) (hn : n ≤ 100) (hmm : 100 ≤ mm) : ∀ {T : List (Int × Int)}, (∀ q ∈ T, OkS m n q.1 ∧ OkS m n q.2) → SxA 1 (3 * T.length) mm t (T.map fun q => PyData.tuple (dI [q.1, q.2]))
  | [], _ => .nil
  | q :: r, h => by
    have ih := tree_sx (t := t) hm h1 hn hmm (T := r) fun x hx => h x (List.mem_cons_of_mem _ hx)
    obtain ⟨o1, o2⟩ := h q List.mem_cons_self
    unfold OkS at o1 o2
    have one : SxA 1 (2 + 1) mm t [PyData.tuple (dI [q.1, q.2])] := .one ((sx_ints2 (ns := [q.1, q.2]) fun k hk => by
      rcases List.mem_cons.mp hk with rfl | hk
      · omega
      · rw [List.mem_singleton.mp hk]
        omega).tuple)
    have z := one.app ih
    refine z.mono (Nat.le_refl _) ?_ (Nat.le_refl _) (Nat.le_refl _)
    rw [List.length_cons]
    omega
/-- a tree stands there -/
def TrAt (K : PySem.W.Frag) (m : Nat) (H : Hp) (x : V) : Prop := ∃ (p : Addr) (ys : List V) (T : List (Int × Int)), x = .ref p ∧ SqT K H p ys ∧ NdAt K H ys T ∧ TreeT m T ∧ T.length ≤ 12
theorem TrAt.kept {m : Nat} {d l : Addr} {c : Nat} {H H2 : Hp} {x : V} (Dk : Dek H d l c) (k : Kept d l H H2) (h : TrAt K m H x) : TrAt K m H2 x := by
  obtain ⟨p, ys, T, e, h1, h2, h3⟩ := h
  exact ⟨p, ys, T, e, k.tupG Dk h1, h2.keep fun _ _ h => k.tupG Dk h, h3⟩
theorem no_odd {m : Int} {d l : Addr} {H : Hp} {xs : List V} {p D : Addr} {σ : L2.St} {s iv : Nat} {Qd : Hp → Prop} (hm : 0 ≤ m) (hS : H p = some (.lst xs)) (hx : ∀ x ∈ xs, Itm K d l 4 800 (10 ^ 39 + 2) 700 H x) (hn : xs.length ≤ 1000) (hD : H D = none) (hs : s < σ.length) (si : iv ≠ s) (e : σ[iv]? = some (some (.int m)))
    (done : ∀ H2, Same H H2 → H2 D = some (.lst []) → Qd H2) :
    ∃ W : Nat → Nat → Hp → Prop, (∃ m, W 0 m (upd H D (.lst []))) ∧ ∀ i m H, W i m H →
      ((Itl K p).stop i H ∧ Qd H) ∨ ((Itl K p).go i H ∧ ∃ Nx : Hp → Prop, (∀ H', Nx H' → ∃ m', m' < m ∧ W (i + 1) m' H') ∧ ∀ x H', (Itl K p).yld i H x H' → gName s x (wipe σ [s]) H' fun σ2 H2 => wipe σ2 [s] = wipe σ [s] ∧ tNot (tB (tCall (spOneT K) [] E0 (tCons (tVar iv) (tCons (tVar s) tNil)))) σ2 H2 fun b H3 =>
        if b = true then tVar s σ2 H3 fun y H4 => ∃ acc, H4 D = some (.lst acc) ∧ acc.length < sizeLine ∧ Nx (upd H4 D (.lst (acc ++ [y]))) else Nx H3) := by
  refine lc_empty (walk_list (K := K) (a := p) (xs := xs)) hn hD (fun H6 s6 => s6.seq (SqL.of hS)) (fun x H6 hxm s6 R hR => ?_) (fun H6 s6 hD6 => done H6 s6 hD6)
  obtain ⟨E, hy, sx⟩ := (hx x hxm).same s6
  refine ⟨.int m, ?_, x, ?_, m, x, E, 4, 800, 10 ^ 39 + 2, 700, rfl, dy_dx hy, hm, sx, by decide, Nat.le_refl _, by decide +kernel, fun H7 s7 => ⟨_, rfl, hR _ s7⟩⟩
  · rw [List.getElem?_set_ne (Ne.symm si)]
    exact (wipe_other si e)
  · rw [List.getElem?_set_self (by rw [wipe_length]; exact hs)]
theorem lit_three {d l : Addr} {c : Nat} {σ : L2.St} {H : Hp} {ds : List PyData} {p : Addr} {ys : List V} {n : Nat} {Q : List V → Hp → Prop} (v : WdE K d l c σ H (tVar 4) (.tuple ds)) (sx : Sx 2 36 (10 ^ 39) 100 (.tuple ds)) (hp : SqT K H p ys) (hn : ys.length = n) (hn2 : n ≤ 100) (sA : SxA 1 36 (10 ^ 39) 100 ds)
    (small : ∀ i j : Int, i.natAbs ≤ 100 → j.natAbs ≤ 100 → SxA 1 3 (10 ^ 39) 100 [PyData.tuple (dI [i, j])]) (lT : ds.length ≤ 12) (dk : Dek H d l c)
    (q : ∀ (zs : List V) (H2 : Hp), Same H H2 → Dek H2 d l c → (∀ x ∈ zs, Itm K d l 4 800 (10 ^ 39 + 2) 700 H2 x) → zs.length = 3 → Q zs H2) :
    tCons (tOp (rCatU K) (tVar 4) (tTup (tCons (tTup (tCons (tC (V.int 0)) (tCons (tUn (rU fun i => V.int (-i)) (tC (V.int 1))) tNil))) tNil)))
      (tCons (tOp (rCatU K) (tVar 4) (tTup (tCons (tTup (tCons (tCB (rLenS K) (tCons (tVar 4) tNil)) (tCons (tC (V.int 0)) tNil))) tNil))) (tCons (tCB (rListOf K) (tCons (tVar 4) tNil)) tNil)) σ H Q := by
  have up4 : ∀ {n b mz t : Nat} {D : PyData}, Sx n b mz t D → n ≤ 4 → b ≤ 800 → mz ≤ 10 ^ 39 + 2 → t ≤ 700 → Sx 4 800 (10 ^ 39 + 2) 700 D := fun h h1 h2 h3 h4 => h.mono h1 h2 h3 h4
  have b39b : 10 ^ 39 ≤ 10 ^ 39 + 2 := by omega
  have len : WdE K d l c σ H (tCB (rLenS K) (tCons (tVar 4) tNil)) (.int (ds.length : Nat)) := fun H3 Q3 s3 dk3 q3 => v H3 _ s3 dk3 fun x H4 s4 dk4 hx => by
    obtain ⟨pp, xs, rfl, hpp, ha⟩ := dy_tuple hx
    have e := dyA_len ha
    exact ⟨pp, _, rfl, .inr hpp, q3 _ H4 s4 dk4 (by rw [e]; exact .int _)⟩
  refine (WxA.cons (K := K) (n := 4) (b := 800) (m := 10 ^ 39 + 2) (t := 700) ((v.cat (.tup (.cons (.tup (.cons .int (.cons .neg .nil)) (by decide)) .nil) (by decide)) (by simp only [List.length_singleton]; omega)).to (up4 (sA.app (small 0 (-1) (by decide) (by decide))).tuple (by decide) (by decide) b39b (by decide)))
    (.cons ((v.cat (.tup (.cons (.tup (.cons len (.cons .int .nil)) (by show 2 ≤ 1000; decide)) .nil) (by show 1 ≤ 1000; decide)) (by simp only [List.length_singleton]; omega)).to (up4 (sA.app (small (ds.length : Nat) 0 (by omega) (by decide))).tuple (by decide) (by decide) b39b (by decide))) (.cons (v.listOf.to (up4 sA.list (by decide) (by decide) b39b (by decide))) .nil))) H Q (Same.refl _) dk q
theorem asg_wx2 {d l : Addr} {c n b m t : Nat} {σ : L2.St} {H : Hp} {ta : TA} {N i : Nat} {ts : TS} {De : Ends} (lit : WxA K d l c n b m t σ H ta N) (dk : Dek H d l c) (hN : N ≤ 1000)
    (q : ∀ (p : Addr) (xs : List V) (H1 H2 : Hp), Same H H1 → H1 p = none → (∀ x ∈ xs, Itm K d l n b m t H1 x) → Same H1 H2 → Dek H2 d l c → p ≠ d → p ≠ l → H2 p = some (.lst xs) → xs.length = N → ts De (σ.set i (some (.ref p))) H2) : tSeq (tAsg (tLst ta) (gName i)) ts De σ H :=
  lit H _ (Same.refl H) dk fun xs H1 s1 dk1 it hl => ⟨Nat.le_of_lt (small1000 (by omega)), fun p np => q p xs H1 _ s1 np it (same_new np) (dk1.upd np) (dk1.ne np).1 (dk1.ne np).2 upd_same hl⟩
theorem lit_end {d l : Addr} {c : Nat} {σ : L2.St} {H : Hp} {Q : VK} (dk : Dek H d l c) (tl : tellE (.list [.tuple [.str "drawn", .int 0, .int 0], .tuple [.str "drawn", .int 0, .int 0], .tuple [.int 1], .tuple [.int 0]]) = true) (dp : PyData.depth (.list [.tuple [.str "drawn", .int 0, .int 0], .tuple [.str "drawn", .int 0, .int 0], .tuple [.int 1], .tuple [.int 0]]) ≤ 60) (sh : (PyData.shown (.list [.tuple [.str "drawn", .int 0, .int 0], .tuple [.str "drawn", .int 0, .int 0], .tuple [.int 1], .tuple [.int 0]])).length ≤ sizeLine) (q : ∀ H2, Q (.str (PyData.shown (.list [.tuple [.str "drawn", .int 0, .int 0], .tuple [.str "drawn", .int 0, .int 0], .tuple [.int 1], .tuple [.int 0]]))) H2) :
    tCB (rReprX K) (tCons (tLst (tCons (tTup (tCons (tC (V.str (Str.ofString "drawn"))) (tCons (tC (V.int 0)) (tCons (tC (V.int 0)) tNil)))) (tCons (tTup (tCons (tC (V.str (Str.ofString "drawn"))) (tCons (tC (V.int 0)) (tCons (tC (V.int 0)) tNil)))) (tCons (tTup (tCons (tC (V.int 1)) tNil)) (tCons (tTup (tCons (tC (V.int 0)) tNil)) tNil))))) tNil) σ H Q := by
  have w : WdE K d l c σ H (tTup (tCons (tC (V.str (Str.ofString "drawn"))) (tCons (tC (V.int 0)) (tCons (tC (V.int 0)) tNil)))) (.tuple [.str "drawn", .int 0, .int 0]) := .tup (.cons .str (.cons .int (.cons .int .nil))) (by show 3 ≤ 1000; decide)
  have w5 : WdE K d l c σ H (tLst (tCons (tTup (tCons (tC (V.str (Str.ofString "drawn"))) (tCons (tC (V.int 0)) (tCons (tC (V.int 0)) tNil)))) (tCons (tTup (tCons (tC (V.str (Str.ofString "drawn"))) (tCons (tC (V.int 0)) (tCons (tC (V.int 0)) tNil)))) (tCons (tTup (tCons (tC (V.int 1)) tNil)) (tCons (tTup (tCons (tC (V.int 0)) tNil)) tNil))))) (.list [.tuple [.str "drawn", .int 0, .int 0], .tuple [.str "drawn", .int 0, .int 0], .tuple [.int 1], .tuple [.int 0]]) := .lst (.cons w (.cons w (.cons (.tup (.cons .int .nil) (by show 1 ≤ 1000; decide)) (.cons (.tup (.cons .int .nil) (by show 1 ≤ 1000; decide)) .nil)))) (by show 4 ≤ 1000; decide)
  exact w5 H (fun x H2 => rReprX K [x] H2 Q) (Same.refl _) dk fun x H2 _ _ hx => ⟨x, _, rfl, dy_dx hx, tl, dp, sh, q H2⟩
def spLaw (K : PySem.W.Frag) : Sp := fun vs H Q _ => ∃ (a : Addr) (ns : List Int), vs = [.ref a] ∧ SqL K H a (ns.map V.int) ∧ ns.length ≤ 63 ∧ ∀ H2, Q (.bl true) H2
theorem ok_law {f f1 f2 f3 f4 f5 f6 f7 f8 f9 : Addr} {fd fd1 fd2 fd3 fd4 fd5 fd6 fd7 fd8 fd9 : FuncData} (hdg : base.NoDigits) (F : Fun K "law" "law" s_law f fd)
    (G__law_deck : GFn P w K mg base CX0 1 f1 fd1 ["_law_script"] (spDeck K)) (F__law_deck : Fun K "_law_deck" "_law_deck" s__law_deck f1 fd1) (m__law_deck : mg "_law_deck" = some (.ref f1)) (b__law_deck : Binds K fd1 ["_law_script"] [])
    (G__law_draw : GFn P w K mg base CX0 1 f2 fd2 ["_law_deck_here", "_law_much"] spDraw) (F__law_draw : Fun K "_law_draw" "_law_draw" s__law_draw f2 fd2) (m__law_draw : mg "_law_draw" = some (.ref f2)) (b__law_draw : Binds K fd2 ["_law_deck_here", "_law_much"] [])
    (G__law_any_tree : GFn P w K mg base CX0 3 f3 fd3 ["_law_deck_here", "_law_much"] (spTree K)) (F__law_any_tree : Fun K "_law_any_tree" "_law_any_tree" s__law_any_tree f3 fd3) (m__law_any_tree : mg "_law_any_tree" = some (.ref f3)) (b__law_any_tree : Binds K fd3 ["_law_deck_here", "_law_much"] [])
    (G__law_even_tree : GFn P w K mg base CX0 3 f4 fd4 ["_law_deck_here", "_law_much"] (spTree K)) (F__law_even_tree : Fun K "_law_even_tree" "_law_even_tree" s__law_even_tree f4 fd4) (m__law_even_tree : mg "_law_even_tree" = some (.ref f4)) (b__law_even_tree : Binds K fd4 ["_law_deck_here", "_law_much"] [])
    (G__law_one_right : GFn P w K mg base CX0 4 f5 fd5 ["_law_much", "_law_it"] (spOneT K)) (F__law_one_right : Fun K "_law_one_right" "_law_one_right" s__law_one_right f5 fd5) (m__law_one_right : mg "_law_one_right" = some (.ref f5)) (b__law_one_right : Binds K fd5 ["_law_much", "_law_it"] [])
    (G__law_told_right : GFn P w K mg base CX0 4 f6 fd6 ["_law_deck_here", "_law_much", "_law_nodes"] (spTold K)) (F__law_told_right : Fun K "_law_told_right" "_law_told_right" s__law_told_right f6 fd6) (m__law_told_right : mg "_law_told_right" = some (.ref f6)) (b__law_told_right : Binds K fd6 ["_law_deck_here", "_law_much", "_law_nodes"] [])
    (G__law_bent : GFn P w K mg base CX0 8 f7 fd7 ["_law_deck_here", "_law_it"] (spBent K 4)) (F__law_bent : Fun K "_law_bent" "_law_bent" s__law_bent f7 fd7) (m__law_bent : mg "_law_bent" = some (.ref f7)) (b__law_bent : Binds K fd7 ["_law_deck_here", "_law_it"] [])
    (G_walked : GFn P w K mg base CX0 1 f8 fd8 ["many", "tree", "tosses"] (spWalked0 K)) (F_walked : Fun K "walked" "walked" s_walked f8 fd8) (m_walked : mg "walked" = some (.ref f8)) (b_walked : Binds K fd8 ["many", "tree", "tosses"] [])
    (G_tree_leaves : GFn P w K mg base CX0 2 f9 fd9 ["many", "tree", "depth"] (spLeaves0 K)) (F_tree_leaves : Fun K "tree_leaves" "tree_leaves" s_tree_leaves f9 fd9) (m_tree_leaves : mg "tree_leaves" = some (.ref f9)) (b_tree_leaves : Binds K fd9 ["many", "tree", "depth"] [])
    (T : Txt mg) : GFn P w K mg base CX0 9 f fd ["_law_script"] (spLaw K) := by
  refine gfun_ok F sc_law (fun vs H Q E h => ?_) (fun cdv A outer s H vs Q E hgu hr h => ?_)
  · obtain ⟨a, ns, rfl, _⟩ := h
    rfl
  · obtain ⟨a, ns, rfl, hS, hlen, q⟩ := h
    have nd := sc_law.nd
    refine ⟨_, (pss_cons (ps_set (i := 1) nd rfl (Or.inl rfl) (pe_g G__law_deck hgu (hr.mono (by decide)) (by rfl) m__law_deck F__law_deck.kp b__law_deck .nil pass0 (pa_cons (pv 0) pa_nil)))
      (pss_cons (ps_for PassesOwn.never rfl (pi_range1 rfl T.range (pa_cons pe_int pa_nil)) (pg_name (i := 2) nd rfl (Or.inl rfl))
        (pss_cons (ps_set (i := 3) nd rfl (Or.inr rfl) (pe_op op_add pe_int (pe_g G__law_draw hgu (hr.mono (by decide)) (by rfl) m__law_draw F__law_draw.kp b__law_draw .nil pass0 (pa_cons (pv 1) (pa_cons pe_int pa_nil)))))
      (pss_one (ps_for PassesOwn.never rfl (pi_tup (pe_tup (pa_cons (pe_g G__law_any_tree hgu (hr.mono (by decide)) (by rfl) m__law_any_tree F__law_any_tree.kp b__law_any_tree .nil pass0 (pa_cons (pv 1) (pa_cons (pv 3) pa_nil))) (pa_cons (pe_g G__law_even_tree hgu (hr.mono (by decide)) (by rfl) m__law_even_tree F__law_even_tree.kp b__law_even_tree .nil pass0 (pa_cons (pv 1) (pa_cons (pv 3) pa_nil))) pa_nil)))) (pg_name (i := 4) nd rfl (Or.inl rfl))
        (pss_cons (ps_if (PW.pt (pw_or (pt_not (pt_val (pe_g G__law_one_right hgu (hr.mono (by decide)) (by rfl) m__law_one_right F__law_one_right.kp b__law_one_right .nil pass0 (pa_cons (pv 3) (pa_cons (pv 4) pa_nil))))) (pw_or1 (pt_not (pt_val (pe_g G__law_told_right hgu (hr.mono (by decide)) (by rfl) m__law_told_right F__law_told_right.kp b__law_told_right .nil pass0 (pa_cons (pv 1) (pa_cons (pv 3) (pa_cons (pv 4) pa_nil))))))))) (pss_one (ps_ret pe_bl)) pss_nil)
      (pss_cons (ps_set (i := 5) nd rfl (Or.inl rfl) (pe_g G__law_bent hgu (hr.mono (by decide)) (by rfl) m__law_bent F__law_bent.kp b__law_bent .nil pass0 (pa_cons (pv 1) (pa_cons (pv 4) pa_nil))))
      (pss_cons (ps_set (i := 6) nd rfl (Or.inl rfl) (pe_lst (pa_cons (pv 5) (pa_cons (pe_g G__law_bent hgu (hr.mono (by decide)) (by rfl) m__law_bent F__law_bent.kp b__law_bent .nil pass0 (pa_cons (pv 1) (pa_cons (pv 5) pa_nil))) (pa_cons (pe_op (k_catU (K := K)) (pv 4) (pe_tup (pa_cons (pe_tup (pa_cons pe_int (pa_cons (pe_un un_neg pe_int) pa_nil))) pa_nil))) (pa_cons (pe_op (k_catU (K := K)) (pv 4) (pe_tup (pa_cons (pe_tup (pa_cons (pe_callB (k_len (K := K)) (by rfl) T.len (by decide +kernel) (pa_cons (pv 4) pa_nil)) (pa_cons pe_int pa_nil))) pa_nil))) (pa_cons (pe_callTy (k_listOf (K := K)) (by rfl) T.list (by decide +kernel) (pa_cons (pv 4) pa_nil)) pa_nil)))))))
      (pss_cons (ps_if (pt_cmpR (k_neE (K := K) hr.units) (pe_lc (own := [("_law_it", 8)]) rfl nd (pi_list (pe_op op_cat (pv 6) (pe_lst (pa_cons (pe_slice (k_slU (K := K)) (pv 4) po_none (po_some (pe_un un_neg pe_int))) pa_nil)))) (blkOk_by (N := N_law) (sc := defScope s_law) (by decide +kernel)) (fun _ _ _ _ _ => (pg_name (i := 8) nd rfl (Or.inl rfl))) (fun _ _ _ _ _ => (pts_one (pt_not (pt_val (pe_g G__law_one_right hgu (hr.mono (by decide)) (by rfl) m__law_one_right F__law_one_right.kp b__law_one_right .nil pass0 (pa_cons (pv 3) (pa_cons (pv 8) pa_nil))))))) (fun _ _ _ _ _ => (pv 8))) (pe_lst pa_nil) (nomark _)) (pss_one (ps_ret pe_bl)) pss_nil)
      (pss_cons (ps_if (PW.pt (pw_and (pt_cmpR op_lt (pv 3) pe_int (nomark _)) (pw_and1 (pt_not (pt_val (pe_g G__law_one_right hgu (hr.mono (by decide)) (by rfl) m__law_one_right F__law_one_right.kp b__law_one_right .nil pass0 (pa_cons (pe_op op_add (pv 3) pe_int) (pa_cons (pv 4) pa_nil)))))))) (pss_one (ps_ret pe_bl)) pss_nil)
      (pss_one (ps_if (PW.pt (pw_and (pt_cmpR op_gt (pv 3) pe_int (nomark _)) (pw_and1 (pt_not (pt_val (pe_g G__law_one_right hgu (hr.mono (by decide)) (by rfl) m__law_one_right F__law_one_right.kp b__law_one_right .nil pass0 (pa_cons (pe_op op_sub (pv 3) pe_int) (pa_cons (pv 4) pa_nil)))))))) (pss_one (ps_ret pe_bl)) pss_nil)))))))))))
      (pss_cons (ps_set (i := 6) nd rfl (Or.inl rfl) (pe_lst (pa_cons pe_non (pa_cons pe_int (pa_cons pe_bl (pa_cons pe_str (pa_cons (pe_tup pa_nil) (pa_cons (pe_lst pa_nil) (pa_cons pe_dnewK (pa_cons (pe_tup (pa_cons (pe_tup pa_nil) pa_nil)) (pa_cons (pe_tup (pa_cons (pe_tup (pa_cons pe_int pa_nil)) pa_nil)) (pa_cons (pe_tup (pa_cons (pe_tup (pa_cons pe_int (pa_cons pe_int pa_nil))) pa_nil)) (pa_cons (pe_tup (pa_cons (pe_tup (pa_cons (pe_un un_neg pe_int) (pa_cons (pe_un un_neg pe_int) pa_nil))) pa_nil)) (pa_cons (pe_tup (pa_cons (pe_tup (pa_cons (pe_un un_neg pe_int) (pa_cons pe_bl pa_nil))) pa_nil)) (pa_cons (pe_tup (pa_cons (pe_tup (pa_cons pe_int (pa_cons pe_int pa_nil))) pa_nil)) pa_nil)))))))))))))))
      (pss_cons (ps_expr (pe_bm PySem.F.plainAttrs_list PySem.F.slot_list_append PySem.F.type_list_append mt_append (pv 6) (pa_cons (pe_tup (pa_cons (pe_tup (pa_cons pe_int (pa_cons pe_int (pa_cons pe_int pa_nil)))) pa_nil)) pa_nil)))
      (pss_cons (ps_for PassesOwn.never rfl (pi_tup (pe_tup (pa_cons pe_int (pa_cons pe_int pa_nil)))) (pg_name (i := 3) nd rfl (Or.inr rfl))
        (pss_one (ps_if (pt_cmpR (k_neE (K := K) hr.units) (pe_lc (own := [("_law_it", 8)]) rfl nd (pi_list (pv 6)) (blkOk_by (N := N_law) (sc := defScope s_law) (by decide +kernel)) (fun _ _ _ _ _ => (pg_name (i := 8) nd rfl (Or.inl rfl))) (fun _ _ _ _ _ => (pts_one (pt_not (pt_val (pe_g G__law_one_right hgu (hr.mono (by decide)) (by rfl) m__law_one_right F__law_one_right.kp b__law_one_right .nil pass0 (pa_cons (pv 3) (pa_cons (pv 8) pa_nil))))))) (fun _ _ _ _ _ => (pv 8))) (pe_lst pa_nil) (nomark _)) (pss_one (ps_ret pe_bl)) pss_nil)))
      (pss_cons (ps_set (i := 7) nd rfl (Or.inl rfl) (pe_lst (pa_cons (pe_g G_walked hgu (hr.mono (by decide)) (by rfl) m_walked F_walked.kp b_walked .nil pass0 (pa_cons pe_int (pa_cons (pe_tup pa_nil) (pa_cons pe_str pa_nil)))) (pa_cons (pe_g G_walked hgu (hr.mono (by decide)) (by rfl) m_walked F_walked.kp b_walked .nil pass0 (pa_cons pe_int (pa_cons (pe_tup pa_nil) (pa_cons pe_str pa_nil)))) (pa_cons (pe_g G_tree_leaves hgu (hr.mono (by decide)) (by rfl) m_tree_leaves F_tree_leaves.kp b_tree_leaves .nil pass0 (pa_cons pe_int (pa_cons (pe_tup pa_nil) (pa_cons pe_int pa_nil)))) (pa_cons (pe_g G_tree_leaves hgu (hr.mono (by decide)) (by rfl) m_tree_leaves F_tree_leaves.kp b_tree_leaves .nil pass0 (pa_cons pe_int (pa_cons (pe_tup pa_nil) (pa_cons pe_int pa_nil)))) pa_nil))))))
      (pss_one (ps_ret (pe_cmpR op_eq (pe_callB (k_reprX (K := K) hdg hgu hr) (by rfl) T.repr (by decide +kernel) (pa_cons (pv 7) pa_nil)) (pe_callB (k_reprX (K := K) hdg hgu hr) (by rfl) T.repr (by decide +kernel) (pa_cons (pe_lst (pa_cons (pe_tup (pa_cons pe_str (pa_cons pe_int (pa_cons pe_int pa_nil)))) (pa_cons (pe_tup (pa_cons pe_str (pa_cons pe_int (pa_cons pe_int pa_nil)))) (pa_cons (pe_tup (pa_cons pe_int pa_nil)) (pa_cons (pe_tup (pa_cons pe_int pa_nil)) pa_nil))))) pa_nil)) (nomark _)))))))))), ?_⟩
    refine ⟨_, rfl, a, ns, rfl, hS, hlen, fun d l H1 D1 s1 => ?_⟩
    refine ⟨_, rfl, by decide, by decide, ?_⟩
    refine for_it walk_range (fun i σ HI => ∃ (y2 y3 y4 y5 y6 : Option V), σ = [some (.ref a), some (.ref d), y2, y3, y4, y5, y6, none, none] ∧ Dek HI d l (1000 * i)) ⟨_, _, _, _, _, rfl, D1⟩ (fun _ _ _ _ _ => trivial) ?_ ?_
    · rintro i x σ HI HJ hi ⟨y2, y3, y4, y5, y6, rfl, dk⟩ ⟨rfl, rfl⟩
      have hi : i < 3 := hi
      refine ⟨_, rfl, d, l, _, 6, rfl, dk, by omega, by decide, by decide, fun r H2 r0 r1 dk2 k2 => ⟨_, _, rfl, rfl, ?_⟩⟩
      obtain ⟨mm, hmm⟩ : ∃ mm : Nat, (mm : Int) = 1 + r := ⟨(1 + r).toNat, by omega⟩
      have m1 : 1 ≤ mm ∧ mm ≤ 6 := by omega
      dsimp only
      rw [← hmm]
      refine ⟨_, rfl, _, rfl, d, l, _, (mm : Nat), rfl, dk2, by omega, by omega, by omega, fun p1 ys1 T1 H3 h3 n3 t3 l3 dk3 k3 => ?_⟩
      refine ⟨_, rfl, _, rfl, d, l, _, (mm : Nat), rfl, dk3, by omega, by omega, by omega, fun p2 ys2 T2 H4 h4 n4 t4 l4 dk4 k4 => ⟨by show 2 ≤ sizeLine; decide, fun pt npt => ?_⟩⟩
      have A4 : TrAt K mm H4 (.ref p1) := TrAt.kept dk3 k4 ⟨p1, ys1, T1, rfl, h3, n3, t3, l3⟩
      have B4 : TrAt K mm H4 (.ref p2) := ⟨p2, ys2, T2, rfl, h4, n4, t4, l4⟩
      have s5 : Same H4 (upd H4 pt (.tup [.ref p1, .ref p2])) := same_new npt
      have h5 : upd H4 pt (.tup [.ref p1, .ref p2]) pt = some (.tup [.ref p1, .ref p2]) := upd_same
      have dk5 := Dek.same dk4 s5
      have AB : ∀ x ∈ [V.ref p1, V.ref p2], TrAt K mm (upd H4 pt (.tup [.ref p1, .ref p2])) x := fun x hx => by
        rcases List.mem_cons.mp hx with rfl | hx
        · exact A4.kept dk4 (.of s5)
        · rw [List.mem_singleton.mp hx]
          exact B4.kept dk4 (.of s5)
      generalize upd H4 pt (.tup [.ref p1, .ref p2]) = H5 at h5 dk5 AB ⊢
      refine ⟨pt, rfl, ⟨_, .inl (.inl h5)⟩, for_it (walk_tup (K := K) (a := pt) (xs := [V.ref p1, V.ref p2])) (fun j σ HM => ∃ (y4 y5 y6 : Option V), σ = [some (.ref a), some (.ref d), some (.int (0 + (i : Int))), some (.int (mm : Nat)), y4, y5, y6, none, none] ∧ Dek HM d l (1000 * i + 1 + 100 + 100 + 300 * j) ∧ Kept d l H5 HM) ⟨_, _, _, rfl, dk5, .refl _ _ _⟩ (fun j σ HM _ ⟨_, _, _, _, _, k⟩ => k.tupG dk5 (.inl (.inl h5))) ?_ ?_⟩
      · rintro j v σ HM HN hj ⟨y4, y5, y6, rfl, dkM, kM⟩ ⟨rfl, hv⟩
        have hj : j < 2 := hj
        obtain ⟨p, ys, T3, rfl, hp, na, tr, t12⟩ := (AB v (List.mem_of_getElem? hv)).kept dk5 kM
        have t1 := tr.1
        have lx := na.len
        have dyT : ∀ HZ, Kept d l HN HZ → Dy K d l HZ (.ref p) (.tuple (T3.map fun q => PyData.tuple (dI [q.1, q.2]))) := fun HZ k => dy_kept dkM k (.tup hp na.dy)
        have sxA : ∀ mz t, 100 ≤ mz → SxA 1 36 mz t (T3.map fun q => PyData.tuple (dI [q.1, q.2])) := fun mz t hz => (tree_sx (t := t) (m := mm) (n := T3.length) (by omega) (by omega) (by omega) hz tr.2).mono (Nat.le_refl _) (by omega) (Nat.le_refl _) (Nat.le_refl _)
        have b39 : 100 ≤ 10 ^ 39 := by decide +kernel
        have sx0 := (sxA (10 ^ 39) 100 b39).tuple
        have hm : 10 ^ 39 < 10 ^ 4300 := Nat.pow_lt_pow_right (by decide) (by decide)
        refine ⟨_, rfl, _, rfl, (mm : Nat), .ref p, _, 2, 36, 10 ^ 39, 100, rfl, dy_dx (dyT HN (.refl _ _ _)), by omega, sx0, by decide, by decide, hm, fun H6 s6 => ⟨_, rfl, ifF (by rfl) ?_⟩⟩
        have k6 : Kept d l HN H6 := .of s6
        refine ⟨_, rfl, _, rfl, _, rfl, d, l, _, mm, p, ys, T3, rfl, Dek.same dkM s6, by omega, k6.tupG dkM hp, na.keep fun _ _ h => k6.tupG dkM h, tr, m1.1, m1.2, t12, fun H7 dk7 k7 => ⟨_, rfl, ifF (by rfl) ?_⟩⟩
        have k07 := k6.trans k7
        refine ⟨_, rfl, _, rfl, d, l, _, .ref p, 2, 36, 10 ^ 39, 100, rfl, dk7, by decide, by omega, ⟨_, dyT H7 k07, sx0⟩, Nat.le_refl _, by decide +kernel, by decide, fun y H8 iy dk8 k8 => ?_⟩
        have k08 := k07.trans k8
        refine ⟨_, rfl, _, rfl, _, rfl, d, l, _, y, 3, 272, 10 ^ 39 + 1, 300, rfl, dk8, by decide, by omega, iy, by omega, by decide +kernel, by decide, fun z H9 iz dk9 k9 => ?_⟩
        have k09 := k08.trans k9
        have up4 : ∀ {n b mz t : Nat} {D : PyData}, Sx n b mz t D → n ≤ 4 → b ≤ 800 → mz ≤ 10 ^ 39 + 2 → t ≤ 700 → Sx 4 800 (10 ^ 39 + 2) 700 D := fun h h1 h2 h3 h4 => h.mono h1 h2 h3 h4
        have b39b : 10 ^ 39 ≤ 10 ^ 39 + 2 := by omega
        have small : ∀ i j : Int, i.natAbs ≤ 100 → j.natAbs ≤ 100 → SxA 1 3 (10 ^ 39) 100 [PyData.tuple (dI [i, j])] := fun i j hi hj => .one ((sx_ints2 (ns := [i, j]) fun k hk => by
          rcases List.mem_cons.mp hk with rfl | hk
          · exact Nat.le_trans hi b39
          · rw [List.mem_singleton.mp hk]
            exact Nat.le_trans hj b39).tuple)
        have sA := sxA (10 ^ 39) 100 b39
        have lT : (T3.map fun q => PyData.tuple (dI [q.1, q.2])).length ≤ 12 := by rw [List.length_map]; exact t12
        have v9 : ∀ (σ : L2.St) (H0 : Hp) (c9 : Nat), Kept d l HN H0 → σ[4]? = some (some (.ref p)) → WdE K d l c9 σ H0 (tVar 4) (.tuple (T3.map fun q => PyData.tuple (dI [q.1, q.2]))) := fun σ H0 c9 k e => .v e (dyT H0 k)
        refine lit_three (c := 1000 * i + 1 + 100 + 100 + 300 * j + 200 + 2 * 2 + 2 + 2 * 3 + 2) (v9 _ H9 _ k09 rfl) (sA.tuple) (k09.tupG dkM hp) (by rw [lx]) (by omega) sA small lT dk9 fun zs H10 s10 dk10 it10 l10 => ⟨by rw [List.length_cons, List.length_cons, l10]; show 5 ≤ sizeLine; decide, fun ps nps => ?_⟩
        have s11 : Same H10 (upd H10 ps (.lst (y :: z :: zs))) := same_new nps
        have h11 : upd H10 ps (.lst (y :: z :: zs)) ps = some (.lst (y :: z :: zs)) := upd_same
        have k011 := k09.trans (.of (s10.trans s11))
        have dk11 := Dek.same dk10 s11
        have it11 : ∀ x ∈ y :: z :: zs, Itm K d l 4 800 (10 ^ 39 + 2) 700 (upd H10 ps (.lst (y :: z :: zs))) x := fun x hx => by
          rcases List.mem_cons.mp hx with rfl | hx
          · exact (((iy.kept dk8 k9).same (s10.trans s11))).mono (by decide) (by decide) (by omega) (by decide)
          · rcases List.mem_cons.mp hx with rfl | hx
            · exact (iz.same (s10.trans s11)).mono (by decide) (by decide) (by omega) (by decide)
            · exact (it10 x hx).same s11
        generalize upd H10 ps (.lst (y :: z :: zs)) = H11 at h11 k011 dk11 it11 ⊢
        refine ⟨_, rfl, (v9 _ H11 _ k011 rfl).slc .no .neg H11 _ (Same.refl _) dk11 fun xc H12 s12 dk12 hxc => ⟨by show 1 ≤ sizeLine; decide, fun pa npa => ?_⟩⟩
        have s13 : Same H12 (upd H12 pa (.lst [xc])) := same_new npa
        have it13 : ∀ x ∈ (y :: z :: zs) ++ [xc], Itm K d l 4 800 (10 ^ 39 + 2) 700 (upd H12 pa (.lst [xc])) x := fun x hx => by
          rcases List.mem_append.mp hx with hx | hx
          · exact (it11 x hx).same (s12.trans s13)
          · rw [List.mem_singleton.mp hx]
            exact ⟨_, dy_same s13 hxc, up4 (sA.cutD _ _).tuple (by decide) (by decide) b39b (by decide)⟩
        have h13 := (s12.trans s13) _ _ h11
        have h13a : upd H12 pa (.lst [xc]) pa = some (.lst [xc]) := upd_same
        have s1113 := s12.trans s13
        generalize upd H12 pa (.lst [xc]) = H13 at it13 h13 h13a s1113 ⊢
        refine ⟨ps, pa, _, _, rfl, rfl, h13, h13a, Nat.le_of_lt (small1000 (by rw [List.length_cons, List.length_cons, l10]; show 3 + 1 + 1 + 1 ≤ 1000; decide)), fun pc npc => ?_⟩
        have s14 : Same H13 (upd H13 pc (.lst ((y :: z :: zs) ++ [xc]))) := same_new npc
        have h14 : upd H13 pc (.lst ((y :: z :: zs) ++ [xc])) pc = some (.lst ((y :: z :: zs) ++ [xc])) := upd_same
        have it14 : ∀ x ∈ (y :: z :: zs) ++ [xc], Itm K d l 4 800 (10 ^ 39 + 2) 700 (upd H13 pc (.lst ((y :: z :: zs) ++ [xc]))) x := fun x hx => (it13 x hx).same s14
        have s1114 := s1113.trans s14
        generalize upd H13 pc (.lst ((y :: z :: zs) ++ [xc])) = H14 at h14 it14 s1114 ⊢
        refine ⟨pc, rfl, ⟨_, SqL.of h14⟩, fun D15 nD15 => ?_⟩
        refine no_odd (m := (mm : Nat)) (iv := 3) (by omega) h14 it14 (by rw [List.length_append, List.length_cons, List.length_cons, l10]; show 3 + 1 + 1 + 1 ≤ 1000; decide) nD15 (by show 8 < 9; decide) (by decide) rfl fun H15 s15 hD15 => ⟨Nat.zero_le _, fun pz npz => ?_⟩
        have sz : Same H15 (upd H15 pz (.lst [])) := same_new npz
        refine ⟨D15, pz, _, rfl, rfl, .inr ⟨SqL.of (sz _ _ hD15), SqL.of upd_same⟩, _, rfl, ifF (by rfl) ?_⟩
        have sX := s1114.trans (s15.trans sz)
        generalize upd H15 pz (.lst []) = H16 at sX ⊢
        have k016 := k011.trans (.of sX)
        have dk16 := Dek.same dk11 sX
        refine ⟨_, rfl, _, _, rfl, rfl, _, rfl, and_two (Pz := fun b H => b = false ∧ Same H16 H) ?_ (fun _ kk => ⟨_, rfl, _, _, rfl, rfl, _, rfl, (mm : Int) + 1, .ref p, _, 2, 36, 10 ^ 39, 100, rfl, dy_dx (dyT H16 k016), by omega, sx0, by decide, by decide, hm, fun H s => ⟨_, rfl, kk _ _ ⟨rfl, s⟩⟩⟩) (fun _ kk => kk _ _ ⟨rfl, Same.refl _⟩)⟩
        rintro b H17 ⟨rfl, s17⟩
        refine ifF (by rfl) ?_
        refine ⟨_, rfl, _, _, rfl, rfl, _, rfl, and_two (Pz := fun b H => b = false ∧ Same H17 H) ?_ (fun _ kk => ⟨_, rfl, _, _, rfl, rfl, _, rfl, (mm : Int) - 1, .ref p, _, 2, 36, 10 ^ 39, 100, rfl, dy_dx (dyT H17 (k016.trans (.of s17))), by omega, sx0, by decide, by decide, hm, fun H s => ⟨_, rfl, kk _ _ ⟨rfl, s⟩⟩⟩) (fun _ kk => kk _ _ ⟨rfl, Same.refl _⟩)⟩
        rintro b H18 ⟨rfl, s18⟩
        refine ifF (by rfl) ⟨_, _, _, rfl, Dek.mono (Dek.same dk16 (s17.trans s18)) (by omega), kM.trans (k016.trans (.of (s17.trans s18)))⟩
      · rintro σ HM ⟨y4, y5, y6, rfl, dkM, kM⟩
        exact ⟨_, _, _, _, _, rfl, Dek.mono dkM (by show 1000 * i + 1 + 100 + 100 + 300 * 2 ≤ _; omega)⟩
    · rintro σ HI ⟨y2, y3, y4, y5, y6, rfl, dk⟩
      have h3 : 3 ≤ 10 ^ 39 := by decide +kernel
      have sq : ∀ ns : List Int, (∀ k ∈ ns, k.natAbs ≤ 3) → ns.length ≤ 3 → Sx 4 800 (10 ^ 39 + 2) 700 (.tuple [PyData.tuple (dI ns)]) := fun ns h h1 => (SxA.one ((sx_ints2 (m := 3) (t := 0) h).tuple)).tuple.mono (by decide) (by omega) (by omega) (by decide)
      have lit : WxA K d l (1000 * 3) 4 800 (10 ^ 39 + 2) 700 [some (.ref a), some (.ref d), y2, y3, y4, y5, y6, none, none] HI (tCons (tC V.non) (tCons (tC (V.int 0)) (tCons (tC (V.bl true)) (tCons (tC (V.str (Str.ofString ""))) (tCons (tTup tNil) (tCons (tLst tNil) (tCons tDNewK (tCons (tTup (tCons (tTup tNil) tNil))
          (tCons (tTup (tCons (tTup (tCons (tC (V.int 0)) tNil)) tNil)) (tCons (tTup (tCons (tTup (tCons (tC (V.int 0)) (tCons (tC (V.int 0)) tNil))) tNil)) (tCons (tTup (tCons (tTup (tCons (tUn (rU fun i => V.int (-i)) (tC (V.int 1))) (tCons (tUn (rU fun i => V.int (-i)) (tC (V.int 1))) tNil))) tNil))
          (tCons (tTup (tCons (tTup (tCons (tUn (rU fun i => V.int (-i)) (tC (V.int 1))) (tCons (tC (V.bl true)) tNil))) tNil)) (tCons (tTup (tCons (tTup (tCons (tC (V.int 1)) (tCons (tC (V.int 1)) tNil))) tNil)) tNil))))))))))))) 13 := by
        refine .cons (WdE.non.to Sx.none) (.cons (WdE.int.to (Sx.int (by simp))) (.cons (WdE.bl.to (Sx.bool _)) (.cons (WdE.str.to (Sx.str (asc_lit _ (by decide +kernel)) (by decide +kernel) (by decide +kernel))) (.cons ((WdE.tup .nil (by decide)).to (SxA.tuple .nil)) (.cons ((WdE.lst .nil (by decide)).to (SxA.list .nil)) (.cons (WdE.dct.to (Sx.dict0 (by decide)))
          (.cons ((WdE.tup (.cons (.tup .nil (by decide)) .nil) (by decide)).to (sq [] (fun _ h => (nomatch h)) (by decide)))
          (.cons ((WdE.tup (.cons (.tup (.cons .int .nil) (by decide)) .nil) (by decide)).to (sq [0] (by decide) (by decide)))
          (.cons ((WdE.tup (.cons (.tup (.cons .int (.cons .int .nil)) (by decide)) .nil) (by decide)).to (sq [0, 0] (by decide) (by decide)))
          (.cons ((WdE.tup (.cons (.tup (.cons .neg (.cons .neg .nil)) (by decide)) .nil) (by decide)).to (sq [-1, -1] (by decide) (by decide)))
          (.cons ((WdE.tup (.cons (.tup (.cons .neg (.cons .bl .nil)) (by decide)) .nil) (by decide)).to ?_)
          (.cons ((WdE.tup (.cons (.tup (.cons .int (.cons .int .nil)) (by decide)) .nil) (by decide)).to (sq [1, 1] (by decide) (by decide))) .nil))))))))))))
        exact (SxA.one (((SxA.one (b := 0) (n := 0) (m := 3) (t := 0) (Sx.int (i := -1) (by decide))).app (SxA.one (b := 0) (Sx.bool true))).tuple)).tuple.mono (by decide) (by decide) (by omega) (by decide)
      refine asg_wx2 lit dk (by decide) fun ps xs H0 H2 s0 nps0 it0 s2 dk2 psd psl hps hl => ?_
      refine ⟨_, rfl, .inl ⟨rfl, _, SqL.of hps⟩, by show 3 ≤ sizeLine; decide, fun p1 np1 => ⟨by show 1 ≤ sizeLine; decide, fun p2 np2 => ?_⟩⟩
      have sA : Same H2 (upd (upd H2 p1 (.tup ([0, 0, 0].map V.int))) p2 (.tup [.ref p1])) := (same_new np1).trans (same_new np2)
      have h1A : upd (upd H2 p1 (.tup ([0, 0, 0].map V.int))) p2 (.tup [.ref p1]) p1 = some (.tup ([0, 0, 0].map V.int)) := same_new np2 _ _ upd_same
      have h2A : upd (upd H2 p1 (.tup ([0, 0, 0].map V.int))) p2 (.tup [.ref p1]) p2 = some (.tup [.ref p1]) := upd_same
      have eA : upd (upd H2 p1 (.tup [.int 0, .int 0, .int 0])) p2 (.tup [.ref p1]) = upd (upd H2 p1 (.tup ([0, 0, 0].map V.int))) p2 (.tup [.ref p1]) := rfl
      rw [eA]
      generalize upd (upd H2 p1 (.tup ([0, 0, 0].map V.int))) p2 (.tup [.ref p1]) = HA at sA h1A h2A ⊢
      have hpA := sA _ _ hps
      refine ⟨ps, xs, _, rfl, rfl, hpA, small1000 (by omega), ?_⟩
      have tu := tups_upd (o := .lst (xs ++ [.ref p2])) hpA
      have dkB : Dek (upd HA ps (.lst (xs ++ [.ref p2]))) d l (1000 * 3) := Dek.updN (Dek.same dk2 sA) psd psl
      have itB : ∀ x ∈ xs ++ [.ref p2], Itm K d l 4 800 (10 ^ 39 + 2) 700 (upd HA ps (.lst (xs ++ [.ref p2]))) x := fun x hx => by
        rcases List.mem_append.mp hx with hx | hx
        · exact (it0 x hx).same (same_upd_of (s2.trans sA) nps0)
        · rw [List.mem_singleton.mp hx]
          exact ⟨_, .tup (.inl (.inl (tu _ _ h2A nofun))) (.cons (.tup (.inl (.inl (tu _ _ h1A nofun))) (dyA_ints [0, 0, 0])) .nil), sq [0, 0, 0] (by decide) (by decide)⟩
      have hpB : upd HA ps (.lst (xs ++ [.ref p2])) ps = some (.lst (xs ++ [.ref p2])) := upd_same
      generalize upd HA ps (.lst (xs ++ [.ref p2])) = HB at dkB itB hpB ⊢
      refine ⟨by show 2 ≤ sizeLine; decide, fun pt npt => ?_⟩
      have sC : Same HB (upd HB pt (.tup ([1, 2].map V.int))) := same_new npt
      have hC : upd HB pt (.tup ([1, 2].map V.int)) pt = some (.tup ([1, 2].map V.int)) := upd_same
      have eC : upd HB pt (.tup [.int 1, .int 2]) = upd HB pt (.tup ([1, 2].map V.int)) := rfl
      rw [eC]
      generalize upd HB pt (.tup ([1, 2].map V.int)) = HC at sC hC ⊢
      refine ⟨pt, rfl, ⟨_, .inl (.inl hC)⟩, for_it (walk_tup (K := K) (a := pt) (xs := [1, 2].map V.int)) (fun j σ HM => ∃ (y3 : Option V), σ = [some (.ref a), some (.ref d), y2, y3, y4, y5, some (.ref ps), none, none] ∧ Same HC HM) ⟨_, rfl, Same.refl _⟩ (fun j σ HM _ ⟨_, _, s⟩ => sameT s (.inl (.inl hC))) ?_ ?_⟩
      · rintro j v σ HM HN hj ⟨y3, rfl, sM⟩ ⟨rfl, hv⟩
        obtain ⟨mm, rfl, hmm⟩ := get_int (ns := [1, 2]) hv
        have m0 : 0 ≤ mm := by
          rcases List.mem_cons.mp (List.mem_of_getElem? hmm) with rfl | h
          · decide
          · rw [List.mem_singleton.mp h]
            decide
        have sBM := sC.trans sM
        refine ⟨_, rfl, ps, rfl, ⟨_, SqL.of (sBM _ _ hpB)⟩, fun D5 nD5 => ?_⟩
        refine no_odd (m := mm) (d := d) (l := l) (iv := 3) m0 (sBM _ _ hpB) (fun x hx => (itB x hx).same sBM) (by rw [List.length_append, hl]; show 13 + 1 ≤ 1000; decide) nD5 (by show 8 < 9; decide) (by decide) rfl fun H15 s15 hD15 => ⟨Nat.zero_le _, fun pz npz => ?_⟩
        have sz : Same H15 (upd H15 pz (.lst [])) := same_new npz
        exact ⟨D5, pz, _, rfl, rfl, .inr ⟨SqL.of (sz _ _ hD15), SqL.of upd_same⟩, _, rfl, ifF (by rfl) ⟨_, rfl, sM.trans (s15.trans sz)⟩⟩
      · rintro σ HM ⟨y3, rfl, sM⟩
        refine ⟨Nat.zero_le _, fun pe npe => ⟨1, pe, _, rfl, .inl (.inl upd_same), fun r1 Ha sa ha => ?_⟩⟩
        refine ⟨Nat.zero_le _, fun pf npf => ⟨1, pf, _, rfl, .inl (.inl upd_same), fun r2 Hb sb hb => ?_⟩⟩
        refine ⟨Nat.zero_le _, fun pg npg => ⟨1, pg, 0, rfl, .inl (.inl upd_same), by decide, fun r3 Hc sc hc => ?_⟩⟩
        refine ⟨Nat.zero_le _, fun ph nph => ⟨1, ph, 3, rfl, .inl (.inl upd_same), by decide, fun r4 Hd sd hd => ⟨by show 4 ≤ sizeLine; decide, fun pu npu => ?_⟩⟩⟩
        have sb1 := (same_new (o := .tup []) npf).trans sb
        have sc1 := (same_new (o := .tup []) npg).trans sc
        have sd1 := (same_new (o := .tup []) nph).trans sd
        have se : Same Hd (upd Hd pu (.lst [.ref r1, .ref r2, .ref r3, .ref r4])) := same_new npu
        have he : upd Hd pu (.lst [.ref r1, .ref r2, .ref r3, .ref r4]) pu = some (.lst [.ref r1, .ref r2, .ref r3, .ref r4]) := upd_same
        have ha2 := sameT (sb1.trans (sc1.trans (sd1.trans se))) ha
        have hb2 := sameT (sc1.trans (sd1.trans se)) hb
        have hc2 := sameT (sd1.trans se) hc
        have hd2 := sameT se hd
        have dkE : Dek (upd Hd pu (.lst [.ref r1, .ref r2, .ref r3, .ref r4])) d l (1000 * 3) := Dek.same dkB (sC.trans (sM.trans (((same_new (o := .tup []) npe).trans sa).trans (sb1.trans (sc1.trans (sd1.trans se))))))
        generalize upd Hd pu (.lst [.ref r1, .ref r2, .ref r3, .ref r4]) = HE at he ha2 hb2 hc2 hd2 dkE ⊢
        have scw : ∀ z ∈ [V.str "drawn", V.int 0, V.int 0], Sc z := fun z hz => by
          rcases List.mem_cons.mp hz with rfl | hz
          · exact .inr ⟨_, rfl, by decide +kernel, by decide +kernel⟩
          · rcases List.mem_cons.mp hz with rfl | hz
            · exact .inl ⟨0, rfl, Nat.zero_le _⟩
            · rw [List.mem_singleton.mp hz]
              exact .inl ⟨0, rfl, Nat.zero_le _⟩
        have one1 : 1 ≤ 10 ^ 60 := by decide +kernel
        have sxl : Sx 2 400 (10 ^ 60) 10 (.list [.tuple [.str "drawn", .int 0, .int 0], .tuple [.str "drawn", .int 0, .int 0], .tuple [.int 1], .tuple [.int 0]]) := by
          have w1 : Sx 1 33 (10 ^ 60) 10 (.tuple [.str "drawn", .int 0, .int 0]) := (sc_sx scw).tuple
          have w2 : Sx 1 1 (10 ^ 60) 10 (.tuple [.int 1]) := (SxA.one (b := 0) (n := 0) (Sx.int (i := 1) (by simpa using one1))).tuple
          have w3 : Sx 1 1 (10 ^ 60) 10 (.tuple [.int 0]) := (SxA.one (b := 0) (n := 0) (Sx.int (i := 0) (by simp))).tuple
          exact ((((SxA.one w1).app (SxA.one w1)).app (SxA.one w2)).app (SxA.one w3)).list.mono (by decide) (by decide) (Nat.le_refl _) (Nat.le_refl _)
        have hm60 : 10 ^ 60 < 10 ^ 4300 := Nat.pow_lt_pow_right (by decide) (by decide)
        have tlE := (fit_told hm60 _ sxl.fit).1
        have dpE := Nat.le_trans sxl.dep (show 2 ≤ 60 by decide)
        have shE := sxl.short (by decide) hm60
        refine ⟨_, rfl, _, .list [.tuple [.str "drawn", .int 0, .int 0], .tuple [.str "drawn", .int 0, .int 0], .tuple [.int 1], .tuple [.int 0]], rfl, .lst (SqL.of he) (.cons (.tup ha2 (.cons (.str _) (.cons (.int _) (.cons (.int _) .nil)))) (.cons (.tup hb2 (.cons (.str _) (.cons (.int _) (.cons (.int _) .nil)))) (.cons (.tup hc2 (.cons (.int _) .nil)) (.cons (.tup hd2 (.cons (.int _) .nil)) .nil)))), tlE, dpE, shE, ?_⟩
        refine lit_end (c := 1000 * 3) dkE tlE dpE shE fun H2 => ⟨rfl, ?_⟩
        rw [decide_eq_true rfl]
        exact q _
end
end SG

namespace SG
open PySem PySem.Spec PyProof.Rows L2
theorem kwOne_args {α : Type} {us ws : List α} (h : (kwOne us ws).length = 1) : ∃ x, us = [] ∧ ws = [x] := by
  match us, ws, h with
  | [], [x], _ => exact ⟨x, rfl, rfl⟩
  | [], [], h => exact absurd h (by simp [kwOne])
  | [], _ :: _ :: _, h => exact absurd h (by simp [kwOne])
  | _ :: _, _, h => exact absurd h (by simp [kwOne])
theorem kwTurn_args {α : Type} {us ws : List α} (h : (kwTurn us ws).length = 2) : ∃ x y, us = [] ∧ ws = [x, y] := by
  match us, ws, h with
  | [], [x, y], _ => exact ⟨x, y, rfl, rfl⟩
  | [], [], h => exact absurd h (by simp [kwTurn])
  | [], [_], h => exact absurd h (by simp [kwTurn])
  | [], _ :: _ :: _ :: _, h => exact absurd h (by simp [kwTurn])
  | _ :: _, _, h => exact absurd h (by simp [kwTurn])
theorem all_mk {l : PySem.W.OpenLaw} {w : World} {K : PySem.W.Frag} {h : Heap} {mg : Str → Option Value} {fa f_is_integer f_is_tuple_of f_reached f_is_tree f_is_node f_onward_nodes f_tree_leaves f_tossed f_walked f__law_deck f__law_draw f__law_pick f__law_tosses f__law_met f__law_pruned f__law_any_tree f__law_even_tree f__law_odd f__law_bent f__law_is_tree f__law_due f__law_leaves f__law_told_right f__law_one_right f_law : Addr} (X : K.In h) (G : h.Ns mainGlobals mg) (hfa : mg "law" = some (.ref fa))
    {od_is_integer an_is_integer od_is_tuple_of an_is_tuple_of od_reached an_reached od_is_tree an_is_tree od_is_node an_is_node od_onward_nodes an_onward_nodes od_tree_leaves an_tree_leaves od_tossed an_tossed od_walked an_walked od__law_deck an__law_deck od__law_draw an__law_draw od__law_pick an__law_pick od__law_tosses an__law_tosses od__law_met an__law_met od__law_pruned an__law_pruned od__law_any_tree an__law_any_tree od__law_even_tree an__law_even_tree od__law_odd an__law_odd od__law_bent an__law_bent od__law_is_tree an__law_is_tree od__law_due an__law_due od__law_leaves an__law_leaves od__law_told_right an__law_told_right od__law_one_right an__law_one_right od_law an_law : Option Addr} {sl_is_integer sl_is_tuple_of sl_reached sl_is_tree sl_is_node sl_onward_nodes sl_tree_leaves sl_tossed sl_walked sl__law_deck sl__law_draw sl__law_pick sl__law_tosses sl__law_met sl__law_pruned sl__law_any_tree sl__law_even_tree sl__law_odd sl__law_bent sl__law_is_tree sl__law_due sl__law_leaves sl__law_told_right sl__law_one_right sl_law : Array (Option Value)} {oc_is_integer kV_is_integer dc_is_integer pm_is_integer cd_is_integer ct_is_integer oc_is_tuple_of kV_is_tuple_of dc_is_tuple_of pm_is_tuple_of cd_is_tuple_of ct_is_tuple_of oc_reached kV_reached dc_reached pm_reached cd_reached ct_reached oc_is_tree kV_is_tree dc_is_tree pm_is_tree cd_is_tree ct_is_tree oc_is_node kV_is_node dc_is_node pm_is_node cd_is_node ct_is_node oc_onward_nodes kV_onward_nodes dc_onward_nodes pm_onward_nodes cd_onward_nodes ct_onward_nodes oc_tree_leaves kV_tree_leaves dc_tree_leaves pm_tree_leaves cd_tree_leaves ct_tree_leaves oc_tossed kV_tossed dc_tossed pm_tossed cd_tossed ct_tossed oc_walked kV_walked dc_walked pm_walked cd_walked ct_walked oc__law_deck kV__law_deck dc__law_deck pm__law_deck cd__law_deck ct__law_deck oc__law_draw kV__law_draw dc__law_draw pm__law_draw cd__law_draw ct__law_draw oc__law_pick kV__law_pick dc__law_pick pm__law_pick cd__law_pick ct__law_pick oc__law_tosses kV__law_tosses dc__law_tosses pm__law_tosses cd__law_tosses ct__law_tosses oc__law_met kV__law_met dc__law_met pm__law_met cd__law_met ct__law_met oc__law_pruned kV__law_pruned dc__law_pruned pm__law_pruned cd__law_pruned ct__law_pruned oc__law_any_tree kV__law_any_tree dc__law_any_tree pm__law_any_tree cd__law_any_tree ct__law_any_tree oc__law_even_tree kV__law_even_tree dc__law_even_tree pm__law_even_tree cd__law_even_tree ct__law_even_tree oc__law_odd kV__law_odd dc__law_odd pm__law_odd cd__law_odd ct__law_odd oc__law_bent kV__law_bent dc__law_bent pm__law_bent cd__law_bent ct__law_bent oc__law_is_tree kV__law_is_tree dc__law_is_tree pm__law_is_tree cd__law_is_tree ct__law_is_tree oc__law_due kV__law_due dc__law_due pm__law_due cd__law_due ct__law_due oc__law_leaves kV__law_leaves dc__law_leaves pm__law_leaves cd__law_leaves ct__law_leaves oc__law_told_right kV__law_told_right dc__law_told_right pm__law_told_right cd__law_told_right ct__law_told_right oc__law_one_right kV__law_one_right dc__law_one_right pm__law_one_right cd__law_one_right ct__law_one_right oc_law kV_law dc_law pm_law cd_law ct_law : Value}
    (a_is_integer : PySem.W.nsIn K mainGlobals "is_integer" = some (some (.ref f_is_integer))) (l_is_integer : K.lookup f_is_integer = some ⟨oc_is_integer, od_is_integer, .func (PySem.W.fnOf "is_integer" "is_integer" (defArgs s_is_integer) (defBody s_is_integer) (defScope s_is_integer) .none kV_is_integer dc_is_integer pm_is_integer an_is_integer cd_is_integer ct_is_integer), sl_is_integer⟩) (c_is_integer : PySem.W.codeIn K cd_is_integer "is_integer" = true) (k_is_integer : PySem.W.keepIn K (.ref f_is_integer) = true)
    (a_is_tuple_of : PySem.W.nsIn K mainGlobals "is_tuple_of" = some (some (.ref f_is_tuple_of))) (l_is_tuple_of : K.lookup f_is_tuple_of = some ⟨oc_is_tuple_of, od_is_tuple_of, .func (PySem.W.fnOf "is_tuple_of" "is_tuple_of" (defArgs s_is_tuple_of) (defBody s_is_tuple_of) (defScope s_is_tuple_of) .none kV_is_tuple_of dc_is_tuple_of pm_is_tuple_of an_is_tuple_of cd_is_tuple_of ct_is_tuple_of), sl_is_tuple_of⟩) (c_is_tuple_of : PySem.W.codeIn K cd_is_tuple_of "is_tuple_of" = true) (k_is_tuple_of : PySem.W.keepIn K (.ref f_is_tuple_of) = true)
    (a_reached : PySem.W.nsIn K mainGlobals "reached" = some (some (.ref f_reached))) (l_reached : K.lookup f_reached = some ⟨oc_reached, od_reached, .func (PySem.W.fnOf "reached" "reached" (defArgs s_reached) (defBody s_reached) (defScope s_reached) .none kV_reached dc_reached pm_reached an_reached cd_reached ct_reached), sl_reached⟩) (c_reached : PySem.W.codeIn K cd_reached "reached" = true) (k_reached : PySem.W.keepIn K (.ref f_reached) = true)
    (a_is_tree : PySem.W.nsIn K mainGlobals "is_tree" = some (some (.ref f_is_tree))) (l_is_tree : K.lookup f_is_tree = some ⟨oc_is_tree, od_is_tree, .func (PySem.W.fnOf "is_tree" "is_tree" (defArgs s_is_tree) (defBody s_is_tree) (defScope s_is_tree) .none kV_is_tree dc_is_tree pm_is_tree an_is_tree cd_is_tree ct_is_tree), sl_is_tree⟩) (c_is_tree : PySem.W.codeIn K cd_is_tree "is_tree" = true) (k_is_tree : PySem.W.keepIn K (.ref f_is_tree) = true)
    (a_is_node : PySem.W.nsIn K mainGlobals "is_node" = some (some (.ref f_is_node))) (l_is_node : K.lookup f_is_node = some ⟨oc_is_node, od_is_node, .func (PySem.W.fnOf "is_node" "is_node" (defArgs s_is_node) (defBody s_is_node) (defScope s_is_node) .none kV_is_node dc_is_node pm_is_node an_is_node cd_is_node ct_is_node), sl_is_node⟩) (c_is_node : PySem.W.codeIn K cd_is_node "is_node" = true) (k_is_node : PySem.W.keepIn K (.ref f_is_node) = true)
    (a_onward_nodes : PySem.W.nsIn K mainGlobals "onward_nodes" = some (some (.ref f_onward_nodes))) (l_onward_nodes : K.lookup f_onward_nodes = some ⟨oc_onward_nodes, od_onward_nodes, .func (PySem.W.fnOf "onward_nodes" "onward_nodes" (defArgs s_onward_nodes) (defBody s_onward_nodes) (defScope s_onward_nodes) .none kV_onward_nodes dc_onward_nodes pm_onward_nodes an_onward_nodes cd_onward_nodes ct_onward_nodes), sl_onward_nodes⟩) (c_onward_nodes : PySem.W.codeIn K cd_onward_nodes "onward_nodes" = true) (k_onward_nodes : PySem.W.keepIn K (.ref f_onward_nodes) = true)
    (a_tree_leaves : PySem.W.nsIn K mainGlobals "tree_leaves" = some (some (.ref f_tree_leaves))) (l_tree_leaves : K.lookup f_tree_leaves = some ⟨oc_tree_leaves, od_tree_leaves, .func (PySem.W.fnOf "tree_leaves" "tree_leaves" (defArgs s_tree_leaves) (defBody s_tree_leaves) (defScope s_tree_leaves) .none kV_tree_leaves dc_tree_leaves pm_tree_leaves an_tree_leaves cd_tree_leaves ct_tree_leaves), sl_tree_leaves⟩) (c_tree_leaves : PySem.W.codeIn K cd_tree_leaves "tree_leaves" = true) (k_tree_leaves : PySem.W.keepIn K (.ref f_tree_leaves) = true)
    (a_tossed : PySem.W.nsIn K mainGlobals "tossed" = some (some (.ref f_tossed))) (l_tossed : K.lookup f_tossed = some ⟨oc_tossed, od_tossed, .func (PySem.W.fnOf "tossed" "tossed" (defArgs s_tossed) (defBody s_tossed) (defScope s_tossed) .none kV_tossed dc_tossed pm_tossed an_tossed cd_tossed ct_tossed), sl_tossed⟩) (c_tossed : PySem.W.codeIn K cd_tossed "tossed" = true) (k_tossed : PySem.W.keepIn K (.ref f_tossed) = true)
    (a_walked : PySem.W.nsIn K mainGlobals "walked" = some (some (.ref f_walked))) (l_walked : K.lookup f_walked = some ⟨oc_walked, od_walked, .func (PySem.W.fnOf "walked" "walked" (defArgs s_walked) (defBody s_walked) (defScope s_walked) .none kV_walked dc_walked pm_walked an_walked cd_walked ct_walked), sl_walked⟩) (c_walked : PySem.W.codeIn K cd_walked "walked" = true) (k_walked : PySem.W.keepIn K (.ref f_walked) = true)
    (a__law_deck : PySem.W.nsIn K mainGlobals "_law_deck" = some (some (.ref f__law_deck))) (l__law_deck : K.lookup f__law_deck = some ⟨oc__law_deck, od__law_deck, .func (PySem.W.fnOf "_law_deck" "_law_deck" (defArgs s__law_deck) (defBody s__law_deck) (defScope s__law_deck) .none kV__law_deck dc__law_deck pm__law_deck an__law_deck cd__law_deck ct__law_deck), sl__law_deck⟩) (c__law_deck : PySem.W.codeIn K cd__law_deck "_law_deck" = true) (k__law_deck : PySem.W.keepIn K (.ref f__law_deck) = true)
    (a__law_draw : PySem.W.nsIn K mainGlobals "_law_draw" = some (some (.ref f__law_draw))) (l__law_draw : K.lookup f__law_draw = some ⟨oc__law_draw, od__law_draw, .func (PySem.W.fnOf "_law_draw" "_law_draw" (defArgs s__law_draw) (defBody s__law_draw) (defScope s__law_draw) .none kV__law_draw dc__law_draw pm__law_draw an__law_draw cd__law_draw ct__law_draw), sl__law_draw⟩) (c__law_draw : PySem.W.codeIn K cd__law_draw "_law_draw" = true) (k__law_draw : PySem.W.keepIn K (.ref f__law_draw) = true)
    (a__law_pick : PySem.W.nsIn K mainGlobals "_law_pick" = some (some (.ref f__law_pick))) (l__law_pick : K.lookup f__law_pick = some ⟨oc__law_pick, od__law_pick, .func (PySem.W.fnOf "_law_pick" "_law_pick" (defArgs s__law_pick) (defBody s__law_pick) (defScope s__law_pick) .none kV__law_pick dc__law_pick pm__law_pick an__law_pick cd__law_pick ct__law_pick), sl__law_pick⟩) (c__law_pick : PySem.W.codeIn K cd__law_pick "_law_pick" = true) (k__law_pick : PySem.W.keepIn K (.ref f__law_pick) = true)
    (a__law_tosses : PySem.W.nsIn K mainGlobals "_law_tosses" = some (some (.ref f__law_tosses))) (l__law_tosses : K.lookup f__law_tosses = some ⟨oc__law_tosses, od__law_tosses, .func (PySem.W.fnOf "_law_tosses" "_law_tosses" (defArgs s__law_tosses) (defBody s__law_tosses) (defScope s__law_tosses) .none kV__law_tosses dc__law_tosses pm__law_tosses an__law_tosses cd__law_tosses ct__law_tosses), sl__law_tosses⟩) (c__law_tosses : PySem.W.codeIn K cd__law_tosses "_law_tosses" = true) (k__law_tosses : PySem.W.keepIn K (.ref f__law_tosses) = true)
    (a__law_met : PySem.W.nsIn K mainGlobals "_law_met" = some (some (.ref f__law_met))) (l__law_met : K.lookup f__law_met = some ⟨oc__law_met, od__law_met, .func (PySem.W.fnOf "_law_met" "_law_met" (defArgs s__law_met) (defBody s__law_met) (defScope s__law_met) .none kV__law_met dc__law_met pm__law_met an__law_met cd__law_met ct__law_met), sl__law_met⟩) (c__law_met : PySem.W.codeIn K cd__law_met "_law_met" = true) (k__law_met : PySem.W.keepIn K (.ref f__law_met) = true)
    (a__law_pruned : PySem.W.nsIn K mainGlobals "_law_pruned" = some (some (.ref f__law_pruned))) (l__law_pruned : K.lookup f__law_pruned = some ⟨oc__law_pruned, od__law_pruned, .func (PySem.W.fnOf "_law_pruned" "_law_pruned" (defArgs s__law_pruned) (defBody s__law_pruned) (defScope s__law_pruned) .none kV__law_pruned dc__law_pruned pm__law_pruned an__law_pruned cd__law_pruned ct__law_pruned), sl__law_pruned⟩) (c__law_pruned : PySem.W.codeIn K cd__law_pruned "_law_pruned" = true) (k__law_pruned : PySem.W.keepIn K (.ref f__law_pruned) = true)
    (a__law_any_tree : PySem.W.nsIn K mainGlobals "_law_any_tree" = some (some (.ref f__law_any_tree))) (l__law_any_tree : K.lookup f__law_any_tree = some ⟨oc__law_any_tree, od__law_any_tree, .func (PySem.W.fnOf "_law_any_tree" "_law_any_tree" (defArgs s__law_any_tree) (defBody s__law_any_tree) (defScope s__law_any_tree) .none kV__law_any_tree dc__law_any_tree pm__law_any_tree an__law_any_tree cd__law_any_tree ct__law_any_tree), sl__law_any_tree⟩) (c__law_any_tree : PySem.W.codeIn K cd__law_any_tree "_law_any_tree" = true) (k__law_any_tree : PySem.W.keepIn K (.ref f__law_any_tree) = true)
    (a__law_even_tree : PySem.W.nsIn K mainGlobals "_law_even_tree" = some (some (.ref f__law_even_tree))) (l__law_even_tree : K.lookup f__law_even_tree = some ⟨oc__law_even_tree, od__law_even_tree, .func (PySem.W.fnOf "_law_even_tree" "_law_even_tree" (defArgs s__law_even_tree) (defBody s__law_even_tree) (defScope s__law_even_tree) .none kV__law_even_tree dc__law_even_tree pm__law_even_tree an__law_even_tree cd__law_even_tree ct__law_even_tree), sl__law_even_tree⟩) (c__law_even_tree : PySem.W.codeIn K cd__law_even_tree "_law_even_tree" = true) (k__law_even_tree : PySem.W.keepIn K (.ref f__law_even_tree) = true)
    (a__law_odd : PySem.W.nsIn K mainGlobals "_law_odd" = some (some (.ref f__law_odd))) (l__law_odd : K.lookup f__law_odd = some ⟨oc__law_odd, od__law_odd, .func (PySem.W.fnOf "_law_odd" "_law_odd" (defArgs s__law_odd) (defBody s__law_odd) (defScope s__law_odd) .none kV__law_odd dc__law_odd pm__law_odd an__law_odd cd__law_odd ct__law_odd), sl__law_odd⟩) (c__law_odd : PySem.W.codeIn K cd__law_odd "_law_odd" = true) (k__law_odd : PySem.W.keepIn K (.ref f__law_odd) = true)
    (a__law_bent : PySem.W.nsIn K mainGlobals "_law_bent" = some (some (.ref f__law_bent))) (l__law_bent : K.lookup f__law_bent = some ⟨oc__law_bent, od__law_bent, .func (PySem.W.fnOf "_law_bent" "_law_bent" (defArgs s__law_bent) (defBody s__law_bent) (defScope s__law_bent) .none kV__law_bent dc__law_bent pm__law_bent an__law_bent cd__law_bent ct__law_bent), sl__law_bent⟩) (c__law_bent : PySem.W.codeIn K cd__law_bent "_law_bent" = true) (k__law_bent : PySem.W.keepIn K (.ref f__law_bent) = true)
    (a__law_is_tree : PySem.W.nsIn K mainGlobals "_law_is_tree" = some (some (.ref f__law_is_tree))) (l__law_is_tree : K.lookup f__law_is_tree = some ⟨oc__law_is_tree, od__law_is_tree, .func (PySem.W.fnOf "_law_is_tree" "_law_is_tree" (defArgs s__law_is_tree) (defBody s__law_is_tree) (defScope s__law_is_tree) .none kV__law_is_tree dc__law_is_tree pm__law_is_tree an__law_is_tree cd__law_is_tree ct__law_is_tree), sl__law_is_tree⟩) (c__law_is_tree : PySem.W.codeIn K cd__law_is_tree "_law_is_tree" = true) (k__law_is_tree : PySem.W.keepIn K (.ref f__law_is_tree) = true)
    (a__law_due : PySem.W.nsIn K mainGlobals "_law_due" = some (some (.ref f__law_due))) (l__law_due : K.lookup f__law_due = some ⟨oc__law_due, od__law_due, .func (PySem.W.fnOf "_law_due" "_law_due" (defArgs s__law_due) (defBody s__law_due) (defScope s__law_due) .none kV__law_due dc__law_due pm__law_due an__law_due cd__law_due ct__law_due), sl__law_due⟩) (c__law_due : PySem.W.codeIn K cd__law_due "_law_due" = true) (k__law_due : PySem.W.keepIn K (.ref f__law_due) = true)
    (a__law_leaves : PySem.W.nsIn K mainGlobals "_law_leaves" = some (some (.ref f__law_leaves))) (l__law_leaves : K.lookup f__law_leaves = some ⟨oc__law_leaves, od__law_leaves, .func (PySem.W.fnOf "_law_leaves" "_law_leaves" (defArgs s__law_leaves) (defBody s__law_leaves) (defScope s__law_leaves) .none kV__law_leaves dc__law_leaves pm__law_leaves an__law_leaves cd__law_leaves ct__law_leaves), sl__law_leaves⟩) (c__law_leaves : PySem.W.codeIn K cd__law_leaves "_law_leaves" = true) (k__law_leaves : PySem.W.keepIn K (.ref f__law_leaves) = true)
    (a__law_told_right : PySem.W.nsIn K mainGlobals "_law_told_right" = some (some (.ref f__law_told_right))) (l__law_told_right : K.lookup f__law_told_right = some ⟨oc__law_told_right, od__law_told_right, .func (PySem.W.fnOf "_law_told_right" "_law_told_right" (defArgs s__law_told_right) (defBody s__law_told_right) (defScope s__law_told_right) .none kV__law_told_right dc__law_told_right pm__law_told_right an__law_told_right cd__law_told_right ct__law_told_right), sl__law_told_right⟩) (c__law_told_right : PySem.W.codeIn K cd__law_told_right "_law_told_right" = true) (k__law_told_right : PySem.W.keepIn K (.ref f__law_told_right) = true)
    (a__law_one_right : PySem.W.nsIn K mainGlobals "_law_one_right" = some (some (.ref f__law_one_right))) (l__law_one_right : K.lookup f__law_one_right = some ⟨oc__law_one_right, od__law_one_right, .func (PySem.W.fnOf "_law_one_right" "_law_one_right" (defArgs s__law_one_right) (defBody s__law_one_right) (defScope s__law_one_right) .none kV__law_one_right dc__law_one_right pm__law_one_right an__law_one_right cd__law_one_right ct__law_one_right), sl__law_one_right⟩) (c__law_one_right : PySem.W.codeIn K cd__law_one_right "_law_one_right" = true) (k__law_one_right : PySem.W.keepIn K (.ref f__law_one_right) = true)
    (a_law : PySem.W.nsIn K mainGlobals "law" = some (some (.ref f_law))) (l_law : K.lookup f_law = some ⟨oc_law, od_law, .func (PySem.W.fnOf "law" "law" (defArgs s_law) (defBody s_law) (defScope s_law) .none kV_law dc_law pm_law an_law cd_law ct_law), sl_law⟩) (c_law : PySem.W.codeIn K cd_law "law" = true) (k_law : PySem.W.keepIn K (.ref f_law) = true)
    (z_all : PySem.W.nsIn K mainGlobals "all" = some none) (z_bool : PySem.W.nsIn K mainGlobals "bool" = some none) (z_dict : PySem.W.nsIn K mainGlobals "dict" = some none) (z_enumerate : PySem.W.nsIn K mainGlobals "enumerate" = some none) (z_int : PySem.W.nsIn K mainGlobals "int" = some none) (z_isinstance : PySem.W.nsIn K mainGlobals "isinstance" = some none) (z_len : PySem.W.nsIn K mainGlobals "len" = some none) (z_list : PySem.W.nsIn K mainGlobals "list" = some none) (z_range : PySem.W.nsIn K mainGlobals "range" = some none) (z_repr : PySem.W.nsIn K mainGlobals "repr" = some none) (z_str : PySem.W.nsIn K mainGlobals "str" = some none) (z_tuple : PySem.W.nsIn K mainGlobals "tuple" = some none) :
    ∃ fd : FuncData, (∀ (s : Shared) (v : Value), BindsTo s fd ⟨[v], []⟩ [("_law_script", v)]) ∧ ∀ base : Heap, K.In base → base.Ns mainGlobals mg → base.NoDigits → GFn l.prog w K mg base CX0 9 fa fd ["_law_script"] (spLaw K) := by
  have e := hfa.symm.trans (PySem.W.mg_of X G a_law)
  cases e
  have F_is_integer := fun_mk (st := s_is_integer) l_is_integer c_is_integer k_is_integer
  have b_is_integer := F_is_integer.binds (ps := ["thing"]) fun _ _ _ _ _ _ us hl => match us, hl with | [_], _ => rfl
  have m_is_integer := PySem.W.mg_of X G a_is_integer
  have F_is_tuple_of := fun_mk (st := s_is_tuple_of) l_is_tuple_of c_is_tuple_of k_is_tuple_of
  have b_is_tuple_of := F_is_tuple_of.binds (ps := ["thing", "many"]) fun _ _ _ _ _ _ us hl => match us, hl with | [_, _], _ => rfl
  have m_is_tuple_of := PySem.W.mg_of X G a_is_tuple_of
  have F_reached := fun_mk (st := s_reached) l_reached c_reached k_reached
  have b_reached := F_reached.binds (ps := ["starts", "table"]) fun _ _ _ _ _ _ us hl => match us, hl with | [_, _], _ => rfl
  have m_reached := PySem.W.mg_of X G a_reached
  have F_is_tree := fun_mk (st := s_is_tree) l_is_tree c_is_tree k_is_tree
  have b_is_tree := F_is_tree.binds (ps := ["many", "thing"]) fun _ _ _ _ _ _ us hl => match us, hl with | [_, _], _ => rfl
  have m_is_tree := PySem.W.mg_of X G a_is_tree
  have F_is_node := fun_mk (st := s_is_node) l_is_node c_is_node k_is_node
  have b_is_node := F_is_node.binds (ps := ["many", "thing", "size"]) fun _ _ _ _ _ _ us hl => match us, hl with | [_, _, _], _ => rfl
  have m_is_node := PySem.W.mg_of X G a_is_node
  have F_onward_nodes := fun_mk (st := s_onward_nodes) l_onward_nodes c_onward_nodes k_onward_nodes
  have b_onward_nodes := F_onward_nodes.binds (ps := ["tree"]) fun _ _ _ _ _ _ us hl => match us, hl with | [_], _ => rfl
  have m_onward_nodes := PySem.W.mg_of X G a_onward_nodes
  have F_tree_leaves := fun_mk (st := s_tree_leaves) l_tree_leaves c_tree_leaves k_tree_leaves
  have b_tree_leaves := F_tree_leaves.binds (ps := ["many", "tree", "depth"]) fun _ _ _ _ _ _ us hl => match us, hl with | [_, _, _], _ => rfl
  have m_tree_leaves := PySem.W.mg_of X G a_tree_leaves
  have F_tossed := fun_mk (st := s_tossed) l_tossed c_tossed k_tossed
  have b_tossed := F_tossed.binds (ps := ["many", "tree", "ways"]) fun _ _ _ _ _ _ us hl => match us, hl with | [_, _, _], _ => rfl
  have m_tossed := PySem.W.mg_of X G a_tossed
  have F_walked := fun_mk (st := s_walked) l_walked c_walked k_walked
  have b_walked := F_walked.binds (ps := ["many", "tree", "tosses"]) fun _ _ _ _ _ _ us hl => match us, hl with | [_, _, _], _ => rfl
  have m_walked := PySem.W.mg_of X G a_walked
  have F__law_deck := fun_mk (st := s__law_deck) l__law_deck c__law_deck k__law_deck
  have b__law_deck := F__law_deck.binds (ps := ["_law_script"]) fun _ _ _ _ _ _ us hl => match us, hl with | [_], _ => rfl
  have m__law_deck := PySem.W.mg_of X G a__law_deck
  have F__law_draw := fun_mk (st := s__law_draw) l__law_draw c__law_draw k__law_draw
  have b__law_draw := F__law_draw.binds (ps := ["_law_deck_here", "_law_much"]) fun _ _ _ _ _ _ us hl => match us, hl with | [_, _], _ => rfl
  have m__law_draw := PySem.W.mg_of X G a__law_draw
  have F__law_pick := fun_mk (st := s__law_pick) l__law_pick c__law_pick k__law_pick
  have b__law_pick := F__law_pick.binds (ps := ["_law_deck_here", "_law_some"]) fun _ _ _ _ _ _ us hl => match us, hl with | [_, _], _ => rfl
  have m__law_pick := PySem.W.mg_of X G a__law_pick
  have F__law_tosses := fun_mk (st := s__law_tosses) l__law_tosses c__law_tosses k__law_tosses
  have b__law_tosses := F__law_tosses.binds (ps := ["_law_deck_here", "_law_limit"]) fun _ _ _ _ _ _ us hl => match us, hl with | [_, _], _ => rfl
  have m__law_tosses := PySem.W.mg_of X G a__law_tosses
  have F__law_met := fun_mk (st := s__law_met) l__law_met c__law_met k__law_met
  have b__law_met := F__law_met.binds (ps := ["_law_nodes"]) fun _ _ _ _ _ _ us hl => match us, hl with | [_], _ => rfl
  have m__law_met := PySem.W.mg_of X G a__law_met
  have F__law_pruned := fun_mk (st := s__law_pruned) l__law_pruned c__law_pruned k__law_pruned
  have b__law_pruned := F__law_pruned.binds (ps := ["_law_nodes"]) fun _ _ _ _ _ _ us hl => match us, hl with | [_], _ => rfl
  have m__law_pruned := PySem.W.mg_of X G a__law_pruned
  have F__law_any_tree := fun_mk (st := s__law_any_tree) l__law_any_tree c__law_any_tree k__law_any_tree
  have b__law_any_tree := F__law_any_tree.binds (ps := ["_law_deck_here", "_law_much"]) fun _ _ _ _ _ _ us hl => match us, hl with | [_, _], _ => rfl
  have m__law_any_tree := PySem.W.mg_of X G a__law_any_tree
  have F__law_even_tree := fun_mk (st := s__law_even_tree) l__law_even_tree c__law_even_tree k__law_even_tree
  have b__law_even_tree := F__law_even_tree.binds (ps := ["_law_deck_here", "_law_much"]) fun _ _ _ _ _ _ us hl => match us, hl with | [_, _], _ => rfl
  have m__law_even_tree := PySem.W.mg_of X G a__law_even_tree
  have F__law_odd := fun_mk (st := s__law_odd) l__law_odd c__law_odd k__law_odd
  have b__law_odd := F__law_odd.binds (ps := ["_law_deck_here", "_law_it"]) fun _ _ _ _ _ _ us hl => match us, hl with | [_, _], _ => rfl
  have m__law_odd := PySem.W.mg_of X G a__law_odd
  have F__law_bent := fun_mk (st := s__law_bent) l__law_bent c__law_bent k__law_bent
  have b__law_bent := F__law_bent.binds (ps := ["_law_deck_here", "_law_it"]) fun _ _ _ _ _ _ us hl => match us, hl with | [_, _], _ => rfl
  have m__law_bent := PySem.W.mg_of X G a__law_bent
  have F__law_is_tree := fun_mk (st := s__law_is_tree) l__law_is_tree c__law_is_tree k__law_is_tree
  have b__law_is_tree := F__law_is_tree.binds (ps := ["_law_much", "_law_it"]) fun _ _ _ _ _ _ us hl => match us, hl with | [_, _], _ => rfl
  have m__law_is_tree := PySem.W.mg_of X G a__law_is_tree
  have F__law_due := fun_mk (st := s__law_due) l__law_due c__law_due k__law_due
  have b__law_due := F__law_due.binds (ps := ["_law_nodes", "_law_flips"]) fun _ _ _ _ _ _ us hl => match us, hl with | [_, _], _ => rfl
  have m__law_due := PySem.W.mg_of X G a__law_due
  have F__law_leaves := fun_mk (st := s__law_leaves) l__law_leaves c__law_leaves k__law_leaves
  have b__law_leaves := F__law_leaves.binds (ps := ["_law_much", "_law_nodes", "_law_level"]) fun _ _ _ _ _ _ us hl => match us, hl with | [_, _, _], _ => rfl
  have m__law_leaves := PySem.W.mg_of X G a__law_leaves
  have F__law_told_right := fun_mk (st := s__law_told_right) l__law_told_right c__law_told_right k__law_told_right
  have b__law_told_right := F__law_told_right.binds (ps := ["_law_deck_here", "_law_much", "_law_nodes"]) fun _ _ _ _ _ _ us hl => match us, hl with | [_, _, _], _ => rfl
  have m__law_told_right := PySem.W.mg_of X G a__law_told_right
  have F__law_one_right := fun_mk (st := s__law_one_right) l__law_one_right c__law_one_right k__law_one_right
  have b__law_one_right := F__law_one_right.binds (ps := ["_law_much", "_law_it"]) fun _ _ _ _ _ _ us hl => match us, hl with | [_, _], _ => rfl
  have m__law_one_right := PySem.W.mg_of X G a__law_one_right
  have F_law := fun_mk (st := s_law) l_law c_law k_law
  have kb_is_tree_thing_many := kb_of (ps := ["many", "thing"]) (ks := ["thing", "many"]) (g := kwTurn) (gV := kwTurn) F_is_tree (fun kV doc pm an cdv ct us ws hl => by
    obtain ⟨x, y, rfl, rfl⟩ := kwTurn_args hl
    rfl) kwTurn_rel
  have kb_walked_tosses_tree_many := kb_of (ps := ["many", "tree", "tosses"]) (ks := ["tosses", "tree", "many"]) (g := kwThree) (gV := kwThree) F_walked (fun kV doc pm an cdv ct us ws hl => by
    obtain ⟨x, y, z, rfl, rfl⟩ := kwThree_args hl
    rfl) kwThree_rel
  have kb_tree_leaves_depth_tree_many := kb_of (ps := ["many", "tree", "depth"]) (ks := ["depth", "tree", "many"]) (g := kwThree) (gV := kwThree) F_tree_leaves (fun kV doc pm an cdv ct us ws hl => by
    obtain ⟨x, y, z, rfl, rfl⟩ := kwThree_args hl
    rfl) kwThree_rel
  have T : Txt mg := ⟨PySem.W.mg_none_of X G z_all, PySem.W.mg_none_of X G z_bool, PySem.W.mg_none_of X G z_dict, PySem.W.mg_none_of X G z_enumerate, PySem.W.mg_none_of X G z_int, PySem.W.mg_none_of X G z_isinstance, PySem.W.mg_none_of X G z_len, PySem.W.mg_none_of X G z_list, PySem.W.mg_none_of X G z_range, PySem.W.mg_none_of X G z_repr, PySem.W.mg_none_of X G z_str, PySem.W.mg_none_of X G z_tuple⟩
  refine ⟨PySem.W.fnOf "law" "law" (defArgs s_law) (defBody s_law) (defScope s_law) .none kV_law dc_law pm_law an_law cd_law ct_law, fun s v => .of_eq rfl, fun base _ _ hdg => ?_⟩
  exact ok_law hdg F_law (ok_deck F__law_deck T) F__law_deck m__law_deck b__law_deck (ok_draw F__law_draw T) F__law_draw m__law_draw b__law_draw (ok_any F__law_any_tree F__law_draw m__law_draw b__law_draw F__law_met m__law_met b__law_met F__law_pruned m__law_pruned b__law_pruned T) F__law_any_tree m__law_any_tree b__law_any_tree ((ok_even F__law_even_tree F__law_draw m__law_draw b__law_draw T).mono (by decide)) F__law_even_tree m__law_even_tree b__law_even_tree (ok_one hdg F__law_one_right ((ok_isTreeL F__law_is_tree F__law_met m__law_met b__law_met T).mono (by decide)) F__law_is_tree m__law_is_tree b__law_is_tree (ok_is_tree F_is_tree F_is_tuple_of m_is_tuple_of b_is_tuple_of F_is_integer m_is_integer b_is_integer F_is_node m_is_node b_is_node F_reached m_reached b_reached F_onward_nodes m_onward_nodes b_onward_nodes T) F_is_tree m_is_tree b_is_tree kb_is_tree_thing_many T) F__law_one_right m__law_one_right b__law_one_right (ok_told hdg F__law_told_right (ok_tosses F__law_tosses F__law_draw m__law_draw b__law_draw F__law_pick m__law_pick b__law_pick T) F__law_tosses m__law_tosses b__law_tosses (ok_walked F_walked T) F_walked m_walked b_walked kb_walked_tosses_tree_many (ok_due F__law_due T) F__law_due m__law_due b__law_due (ok_draw F__law_draw T) F__law_draw m__law_draw b__law_draw (ok_tree_leaves F_tree_leaves F_tossed m_tossed b_tossed T) F_tree_leaves m_tree_leaves b_tree_leaves kb_tree_leaves_depth_tree_many (ok_leavesL F__law_leaves T) F__law_leaves m__law_leaves b__law_leaves T) F__law_told_right m__law_told_right b__law_told_right (ok_bent F__law_bent m__law_bent b__law_bent F__law_draw m__law_draw b__law_draw F__law_pick m__law_pick b__law_pick F__law_odd m__law_odd b__law_odd T 4) F__law_bent m__law_bent b__law_bent (ok_walked0 F_walked T) F_walked m_walked b_walked (ok_leaves0 F_tree_leaves F_tossed m_tossed b_tossed T) F_tree_leaves m_tree_leaves b_tree_leaves T
end SG
open PySem PySem.W PyProof.Rows
set_option maxHeartbeats 0 in
theorem PySem.Challenge.cw_serialhouse_k44_trees_of_any_value_holds : PySem.Challenge.rw_serialhouse_k44_trees_of_any_value.Holds := by
  w_on; o_law; k_head; (case hw => w_witness2)
  k_fill
  refine SG.walk_g (l := PySem.Challenge.rw_serialhouse_k44_trees_of_any_value) (n := 63) (k := 9) (x := "_law_script") (sp := SG.spLaw) rfl (by decide) rfl ⟨rfl, by decide, by decide⟩ (fun w h Y => PySem.W.kIn_of Y) ?F (fun _ _ a ns hl _ hS => ⟨a, ns, rfl, hS, hl, fun _ => rfl⟩)
  case F =>
    intro w mg fa h KX G hmg
    refine' SG.all_mk KX G hmg ?a_is_integer ?l_is_integer ?c_is_integer ?k_is_integer ?a_is_tuple_of ?l_is_tuple_of ?c_is_tuple_of ?k_is_tuple_of ?a_reached ?l_reached ?c_reached ?k_reached ?a_is_tree ?l_is_tree ?c_is_tree ?k_is_tree ?a_is_node ?l_is_node ?c_is_node ?k_is_node ?a_onward_nodes ?l_onward_nodes ?c_onward_nodes ?k_onward_nodes ?a_tree_leaves ?l_tree_leaves ?c_tree_leaves ?k_tree_leaves ?a_tossed ?l_tossed ?c_tossed ?k_tossed ?a_walked ?l_walked ?c_walked ?k_walked ?a__law_deck ?l__law_deck ?c__law_deck ?k__law_deck ?a__law_draw ?l__law_draw ?c__law_draw ?k__law_draw ?a__law_pick ?l__law_pick ?c__law_pick ?k__law_pick ?a__law_tosses ?l__law_tosses ?c__law_tosses ?k__law_tosses ?a__law_met ?l__law_met ?c__law_met ?k__law_met ?a__law_pruned ?l__law_pruned ?c__law_pruned ?k__law_pruned ?a__law_any_tree ?l__law_any_tree ?c__law_any_tree ?k__law_any_tree ?a__law_even_tree ?l__law_even_tree ?c__law_even_tree ?k__law_even_tree ?a__law_odd ?l__law_odd ?c__law_odd ?k__law_odd ?a__law_bent ?l__law_bent ?c__law_bent ?k__law_bent ?a__law_is_tree ?l__law_is_tree ?c__law_is_tree ?k__law_is_tree ?a__law_due ?l__law_due ?c__law_due ?k__law_due ?a__law_leaves ?l__law_leaves ?c__law_leaves ?k__law_leaves ?a__law_told_right ?l__law_told_right ?c__law_told_right ?k__law_told_right ?a__law_one_right ?l__law_one_right ?c__law_one_right ?k__law_one_right ?a_law ?l_law ?c_law ?k_law ?z_all ?z_bool ?z_dict ?z_enumerate ?z_int ?z_isinstance ?z_len ?z_list ?z_range ?z_repr ?z_str ?z_tuple
    (case a_is_integer => k_is); (case l_is_integer => k_is); (case c_is_integer => k_is); (case k_is_integer => k_is); (case a_is_tuple_of => k_is); (case l_is_tuple_of => k_is); (case c_is_tuple_of => k_is); (case k_is_tuple_of => k_is); (case a_reached => k_is); (case l_reached => k_is); (case c_reached => k_is); (case k_reached => k_is); (case a_is_tree => k_is); (case l_is_tree => k_is); (case c_is_tree => k_is); (case k_is_tree => k_is); (case a_is_node => k_is); (case l_is_node => k_is); (case c_is_node => k_is); (case k_is_node => k_is); (case a_onward_nodes => k_is); (case l_onward_nodes => k_is); (case c_onward_nodes => k_is); (case k_onward_nodes => k_is); (case a_tree_leaves => k_is); (case l_tree_leaves => k_is); (case c_tree_leaves => k_is); (case k_tree_leaves => k_is); (case a_tossed => k_is); (case l_tossed => k_is); (case c_tossed => k_is); (case k_tossed => k_is); (case a_walked => k_is); (case l_walked => k_is); (case c_walked => k_is); (case k_walked => k_is); (case a__law_deck => k_is); (case l__law_deck => k_is); (case c__law_deck => k_is); (case k__law_deck => k_is); (case a__law_draw => k_is); (case l__law_draw => k_is); (case c__law_draw => k_is); (case k__law_draw => k_is); (case a__law_pick => k_is); (case l__law_pick => k_is); (case c__law_pick => k_is); (case k__law_pick => k_is); (case a__law_tosses => k_is); (case l__law_tosses => k_is); (case c__law_tosses => k_is); (case k__law_tosses => k_is); (case a__law_met => k_is); (case l__law_met => k_is); (case c__law_met => k_is); (case k__law_met => k_is); (case a__law_pruned => k_is); (case l__law_pruned => k_is); (case c__law_pruned => k_is); (case k__law_pruned => k_is); (case a__law_any_tree => k_is); (case l__law_any_tree => k_is); (case c__law_any_tree => k_is); (case k__law_any_tree => k_is); (case a__law_even_tree => k_is); (case l__law_even_tree => k_is); (case c__law_even_tree => k_is); (case k__law_even_tree => k_is); (case a__law_odd => k_is); (case l__law_odd => k_is); (case c__law_odd => k_is); (case k__law_odd => k_is); (case a__law_bent => k_is); (case l__law_bent => k_is); (case c__law_bent => k_is); (case k__law_bent => k_is); (case a__law_is_tree => k_is); (case l__law_is_tree => k_is); (case c__law_is_tree => k_is); (case k__law_is_tree => k_is); (case a__law_due => k_is); (case l__law_due => k_is); (case c__law_due => k_is); (case k__law_due => k_is); (case a__law_leaves => k_is); (case l__law_leaves => k_is); (case c__law_leaves => k_is); (case k__law_leaves => k_is); (case a__law_told_right => k_is); (case l__law_told_right => k_is); (case c__law_told_right => k_is); (case k__law_told_right => k_is); (case a__law_one_right => k_is); (case l__law_one_right => k_is); (case c__law_one_right => k_is); (case k__law_one_right => k_is); (case a_law => k_is); (case l_law => k_is); (case c_law => k_is); (case k_law => k_is); (case z_all => k_is); (case z_bool => k_is); (case z_dict => k_is); (case z_enumerate => k_is); (case z_int => k_is); (case z_isinstance => k_is); (case z_len => k_is); (case z_list => k_is); (case z_range => k_is); (case z_repr => k_is); (case z_str => k_is); (case z_tuple => k_is)
