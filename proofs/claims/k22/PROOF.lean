import PyProof.Rows.All
import Wide.All
import OpenK.AllK
import Wide.FinOn
import HandS.ForMost
import HandS.IsInst
import HandS.Style
import HandS.Wide
import PyProof.Rows.Digits
import KE.GoesEnum
import HandS.Zip
import HandS.TupAny
import HandS.Codes
import HandS.ExcInit
import HandS.ExcField
import HandS.ExcIs
import HandS.ExcSuper
import HandS.WordsExc
import PyProof.ReprBulk
import HandS.OwnEq
import KE.KExcIs
import HandS.Text
import KE.GoesEnumKw
import PyProof.FString3
import PyProof.Rows.StrIntSpec
import HandS.FStr
import HandS.Walk
import KE.GoesZip
import HandS.Set
import HandS.Strs
import HandS.SortInts
import PyProof.Rows.SortShellAny
import HandS.TupMul
import HandS.Gcd
import HandS.StrMore
import HandS.WideBits
import PyProof.ReprDict
import PyProof.NeKinds
import PyProof.Rows.IntBool
import PyProof.StrOps2
import HandS.RevTup
import HandS.SetFor
import KE.DataFind
import PyProof.Rows.ReprOcc
import HandS.SortRule
import HandS.Dict
import HandS.Conv
import HandS.Iter
import HandS.DictComp
import PyProof.InstEq
import HandS.SetBool
import HandS.SetKeys
import HandS.DictTup
import PyProof.DictFindH
import KE.DataCmp
import PySem.Challenge.RW_serialhouse_k22_steps_from_word_to_word
import KE.SortData
import HandS.TryMany
import HandS.NoneIn
import HandS.Defaults
import KE.KDictPairs
set_option Elab.async false
set_option linter.all false
set_option maxRecDepth 100000
/-! Contracts of defs that know the guards: where no text of an object is being told, repr can be asked. -/
namespace SG
open PySem PySem.Spec PyProof.Rows L2

/-- a def's promise, kept wherever no guard stands -/
structure GFn (pr : Program) (wo : World) (K : PySem.W.Frag) (mg : Str → Option Value) (ba : Heap) (cx : CXT) (k : Nat) (f : Addr) (fd : FuncData) (ps : List Str) (sp : Sp) : Prop where
  len : ∀ xs Hx R Ex, sp xs Hx R Ex → xs.length = ps.length
  go : ∀ (B : Around) (fr : List Env) (st : Shared) (Hx : Hp) (ar : Args) (vals : List Value) (xs : List V) (R : VK) (Ex : XK),
    B.guards = some [] → Room k B → Env0 pr wo K mg ba B fr st Hx → BindsTo st fd ar (ps.zip vals) → Vals xs vals → sp xs Hx R Ex →
    codeAny (model pr wo) B (.call (.ref f) ar) (CR cx fr pr wo Hx st R Ex) st

variable {pr : Program} {wo : World} {K : PySem.W.Frag} {mg : Str → Option Value} {ba : Heap} {cx : CXT}

theorem GFn.mono {j k : Nat} {f : Addr} {fd : FuncData} {ps : List Str} {sp : Sp} (F : GFn pr wo K mg ba cx j f fd ps sp) (h : j ≤ k) :
    GFn pr wo K mg ba cx k f fd ps sp :=
  ⟨F.len, fun B fr st Hx ar vals xs R Ex g hr => F.go B fr st Hx ar vals xs R Ex g (hr.mono h)⟩
theorem GFn.imp {k : Nat} {f : Addr} {fd : FuncData} {ps : List Str} {sp sq : Sp} (F : GFn pr wo K mg ba cx k f fd ps sp)
    (h : ∀ xs Hx R Ex, sq xs Hx R Ex → sp xs Hx R Ex) : GFn pr wo K mg ba cx k f fd ps sq :=
  ⟨fun xs Hx R Ex q => F.len xs Hx R Ex (h _ _ _ _ q), fun B fr st Hx ar vals xs R Ex g hr e b v q => F.go B fr st Hx ar vals xs R Ex g hr e b v (h _ _ _ _ q)⟩
/-- what is kept anywhere is kept here -/
theorem GFn.of {k : Nat} {f : Addr} {fd : FuncData} {ps : List Str} {sp : Sp} (F : FnOk pr wo K mg ba cx k f fd ps sp) : GFn pr wo K mg ba cx k f fd ps sp :=
  ⟨F.len, fun B fr st Hx ar vals xs R Ex _ hr => F.run B fr st Hx ar vals xs R Ex hr⟩

/-- a def by its body -/
theorem gfn_of {k : Nat} {f : Addr} {nm qn : Str} {pa : Arguments} {bd : List Stmt} {sc : Scope} {dV kV dc pm cdv ct oc : Value} {an od : Option Addr} {osl : Array (Option Value)} {N ps : List Str} {sp : Sp}
    (lk : K.lookup f = some ⟨oc, od, .func (PySem.W.fnOf nm qn pa bd sc dV kV dc pm an cdv ct), osl⟩) (hcd : PySem.W.codeIn K cdv qn = true) (S : FnScope N ps sc)
    (len : ∀ xs Hx R Ex, sp xs Hx R Ex → xs.length = ps.length)
    (hb : ∀ (B : Around) (fr : List Env) (st : Shared) (Hx : Hp) (xs : List V) (R : VK) (Ex : XK), B.guards = some [] → Room k (B.deeper (envOfC qn sc st.heap.objs.size f cdv)) → sp xs Hx R Ex →
      ∃ t, PSs (cxOf cx pr wo K mg ba N qn sc f cdv B fr st Hx Ex) bd t ∧ t { nx := fun _ H2 => R .non H2, rt := R } (start N xs) Hx) :
    GFn pr wo K mg ba cx (k + 1) f (PySem.W.fnOf nm qn pa bd sc dV kV dc pm an cdv ct) ps sp := by
  refine ⟨len, fun B fr st Hx ar vals xs R Ex g hr e0 hbd rv hsp => ?_⟩
  have KX : K.In st.heap := e0.mod.kin.keeps fun b o e => (e0.bs b o e).1
  have lim : st.heap.NoLimit := e0.mod.nolimit.keeps fun b o e => (e0.bs b o e).1
  have hkn : ∀ y ∈ ps.zip vals, sc.names.lookup y.1 = some .local ∨ (sc.names.lookup y.1 = some .cell ∧ ((cellsFrom (st.heap.objs.size + 1) sc.names []).lookup y.1).isSome = true) := by
    rintro ⟨n, v⟩ hy
    rcases S.par n (List.of_mem_zip hy).1 with q | q
    · exact .inl q
    · exact .inr ⟨q, PySem.W.cellsFrom_some _ _ _ (.inl q)⟩
  refine codeAny_call_function hr.depth (KX _ _ lk) rfl S.co S.gen rfl (PySem.W.codeRec_of KX hcd) (hbd _ _ _ _ ?_)
  refine wpAny_newFunctionEnv_cells S.kind hkn fun env he s1 x => ?_
  subst he
  refine ⟨lim.keeps x.toInCall.keep, codeAny_func ?_⟩
  obtain ⟨t, ht, hq⟩ := hb B fr st Hx xs R Ex g (hr.deeper _) hsp
  have I : Inv (cxOf cx pr wo K mg ba N qn sc f cdv B fr st Hx Ex) [] (start N xs) Hx s1 := inv_start S hr.hd e0 (len _ _ _ _ hsp) rv x
  refine wpAny_mono (ht.run [] s1 (start N xs) Hx _ I hq) (fun fl s2 hs => ?_) fun e s2 hs => hs
  have fin : ∀ {τ : L2.St} {H2 : Hp} {v : V} {u : Value}, Inv (cxOf cx pr wo K mg ba N qn sc f cdv B fr st Hx Ex) [] τ H2 s2 → RelV v u → R v H2 → CE fr pr wo Hx st R u s2 :=
    fun {τ H2 v u} J r1 q => ⟨v, H2, J.os, J.bare, J.base, J.hok, r1, q⟩
  cases fl with
  | ret u => obtain ⟨v, τ, H2, J, r1, q⟩ := hs; exact fin J r1 q
  | next => obtain ⟨τ, H2, J, q⟩ := hs; exact fin (v := V.non) (u := Value.none) J rfl q
  | brk => obtain ⟨_, _, _, q⟩ := hs; exact q.elim
  | cont => obtain ⟨_, _, _, q⟩ := hs; exact q.elim

theorem gfun_ok {x qn : Str} {s0 : Stmt} {f : Addr} {fd : FuncData} {N ps : List Str} {k : Nat} {sp : Sp} (F : Fun K x qn s0 f fd) (S : FnScope N ps (defScope s0)) (len : ∀ xs Hx R Ex, sp xs Hx R Ex → xs.length = ps.length)
    (hb : ∀ (cdv : Value) (B : Around) (fr : List Env) (st : Shared) (Hx : Hp) (xs : List V) (R : VK) (Ex : XK), (B.deeper (envOfC qn (defScope s0) st.heap.objs.size f cdv)).guards = some [] →
      Room k (B.deeper (envOfC qn (defScope s0) st.heap.objs.size f cdv)) → sp xs Hx R Ex →
      ∃ t, PSs (cxOf CX0 pr wo K mg ba N qn (defScope s0) f cdv B fr st Hx Ex).nox (defBody s0) t ∧ t { nx := fun _ H2 => R .non H2, rt := R } (start N xs) Hx) :
    GFn pr wo K mg ba CX0 (k + 1) f fd ps sp := by
  obtain ⟨oc, od, kV, dc, pm, an, cdv, ct, osl, rfl, lk, hcd⟩ := F.ex
  refine gfn_of lk hcd S len fun B fr st Hx xs R Ex g hr hsp => ?_
  obtain ⟨t, h, q⟩ := hb cdv B fr st Hx xs R Ex g hr hsp
  exact ⟨t, h.nox, q⟩

section
variable {X : Cx} {k : Nat} {f : Addr} {fd : FuncData} {ps ks : List Str} {sp : Sp} {dvs : List V} {ds : List Value} {Ex : XK} {x : Str} {p pos : Pos} {e : Expr} {es : List Expr} {kws : List Keyword} {t tk : TA}

theorem end_of {pins : List (Addr × Obj)} {σ : L2.St} {Hx : Hp} {st s2 : Shared} {R : VK} {r : Result} (hx : Passes cx X Ex) (I : Inv X pins σ Hx st) (q : CR cx X.stack X.prog X.w Hx st R Ex r s2) :
    (match r with | .ok (.ret u) => EP X pins σ R u s2 | .ok _ => False | .error e => X.xe e s2) := by
  cases r with
  | error e => exact hx pins σ Hx st e s2 I q
  | ok fl => cases fl <;> first | exact I.after q | exact False.elim q

theorem run_g {pins : List (Addr × Obj)} {σ : L2.St} {Hx : Hp} {st : Shared} {R : VK} {ar : Args} {vals : List Value} {xs : List V} (F : GFn X.prog X.w X.K X.mg X.base cx k f fd ps sp) (hg : X.A.guards = some []) (hr : Room k X.A) (hx : Passes cx X Ex)
    (I : Inv X pins σ Hx st) (hb : BindsTo st fd ar (ps.zip vals)) (r : Vals xs vals) (h : sp xs Hx R Ex) {us : List Value} {kw : List (Str × Value)} (ea : ar = ⟨us, kw⟩) : wpAny (model X.prog X.w) X.A (call (.ref f) us kw) (EP X pins σ R) X.xe st := by
  subst ea
  refine wpAny_call (codeAny_mono (F.go X.A X.stack st Hx _ vals xs R Ex hg hr I.env0 hb r h) fun r s2 hq => ?_)
  have z := end_of hx I hq
  cases r with
  | error e => exact z
  | ok fl => cases fl <;> exact z

/-- f(a, ..) -/
theorem pe_g (F : GFn X.prog X.w X.K X.mg X.base cx k f fd ps sp) (hgu : X.A.guards = some []) (hr : Room k X.A) (hg : Gl X x) (hm : X.mg x = some (.ref f)) (hk : PySem.W.keepIn X.K (.ref f) = true) (hb : Binds X.K fd ps ds) (hd : Vals dvs ds) (hx : Passes cx X Ex)
    (ha : PA X (e :: es) t) (hdb : (x == ("__debug__" : Str)) = false := by decide) (he : starEach (e :: es) X.env = (false, eval e X.env) :: starEach es X.env := by rfl) (hpl : (backTo pos (starEach es X.env)).any (·.1) = false := by rfl) :
    PE X (.Call (.Name x p) (e :: es) [] pos) (tCall sp dvs Ex t) := by
  refine ⟨fun pins st σ Hx R I h => wpAny_Call_Name_kw (ld_glob I hg hm ?_ hdb)⟩
  refine PySem.W.callWith_K (h₀ := X.base) I.ok.mod.kin hk (thn (ha.run pos pins st σ Hx _ I h) ?_) he hpl
  rintro us s1 ⟨vs, H1, I1, r, q⟩
  have r2 : Vals (vs ++ dvs) (us ++ ds) := r.append hd
  exact ⟨I1.kIn, run_g F hgu hr hx I1 (hb s1 us I1.kIn (by rw [← r2.length]; exact F.len _ _ _ _ q)) r2 q rfl⟩

/-- f(a, .., k = b, ..) -/
theorem pe_gK {g : List Value → List Value → List Value} {gV : List V → List V → List V} (F : GFn X.prog X.w X.K X.mg X.base cx k f fd ps sp) (hgu : X.A.guards = some []) (hr : Room k X.A) (hg : Gl X x) (hm : X.mg x = some (.ref f)) (hk : PySem.W.keepIn X.K (.ref f) = true)
    (hb : KBinds X.K fd ps ks g gV) (hx : Passes cx X Ex) (ha : PA X (e :: es) t) (hkw : PK X kws tk) (hall : (backToKw pos (keywordEach kws X.env)).all (·.1.isSome) = true := by rfl) (hks : (backToKw pos (keywordEach kws X.env)).filterMap (·.1) = ks := by rfl)
    (hdb : (x == ("__debug__" : Str)) = false := by decide) (he : starEach (e :: es) X.env = (false, eval e X.env) :: starEach es X.env := by rfl)
    (hpl : ((backTo pos (starEach (e :: es) X.env)).any (·.1) || (backToKw pos (keywordEach kws X.env)).any (·.1.isNone)) = false := by rfl) :
    PE X (.Call (.Name x p) (e :: es) kws pos) (tCallK sp gV Ex t tk) := by
  refine ⟨fun pins st σ Hx R I h => wpAny_Call_Name_kw (ld_glob I hg hm ?_ hdb)⟩
  refine PySem.W.callWith_KW (h₀ := X.base) I.ok.mod.kin hk hall (thn (ha.run pos pins st σ Hx _ I h) ?_) hpl he
  rintro us s1 ⟨vs, H1, I1, r, q⟩
  refine thn (hkw.run pos pins s1 σ H1 _ I1 q) ?_
  rintro ws s2 ⟨zs, H2, I2, rz, q2⟩
  refine ⟨I2.kIn, ?_⟩
  rw [hks]
  have r2 := hb.rel r rz
  exact run_g F hgu hr hx I2 (hb.to s2 us ws I2.kIn (by rw [← r2.length]; exact F.len _ _ _ _ q2)) r2 q2 rfl
/-- f(k = b, ..) -/
theorem pe_gK0 {g : List Value → List Value → List Value} {gV : List V → List V → List V} (F : GFn X.prog X.w X.K X.mg X.base cx k f fd ps sp) (hgu : X.A.guards = some []) (hr : Room k X.A) (hg : Gl X x) (hm : X.mg x = some (.ref f)) (hk : PySem.W.keepIn X.K (.ref f) = true)
    (hb : KBinds X.K fd ps ks g gV) (hx : Passes cx X Ex) (hkw : PK X kws tk) (hall : (backToKw pos (keywordEach kws X.env)).all (·.1.isSome) = true := by rfl) (hks : (backToKw pos (keywordEach kws X.env)).filterMap (·.1) = ks := by rfl)
    (hdb : (x == ("__debug__" : Str)) = false := by decide) (hpl : ((backTo pos (starEach [] X.env)).any (·.1) || (backToKw pos (keywordEach kws X.env)).any (·.1.isNone)) = false := by rfl) :
    PE X (.Call (.Name x p) [] kws pos) (tCallK sp gV Ex tNil tk) := by
  refine ⟨fun pins st σ Hx R I h => wpAny_Call_Name_kw (ld_glob I hg hm ?_ hdb)⟩
  refine PySem.W.callWith_KW0 (h₀ := X.base) I.ok.mod.kin hk hall (thn (hkw.run pos pins st σ Hx _ I h) ?_) hpl
  rintro ws s2 ⟨zs, H2, I2, rz, q2⟩
  refine ⟨I2.kIn, ?_⟩
  rw [hks]
  have r2 := hb.rel (Paired.nil : Vals [] []) rz
  exact run_g F hgu hr hx I2 (hb.to s2 [] ws I2.kIn (by rw [← r2.length]; exact F.len _ _ _ _ q2)) r2 q2 rfl
end

/-! ### the law's own call -/
theorem law_g {mb : Str → Option Value} {k : Nat} {fa a : Addr} {fd : FuncData} {x : Str} {sp : Sp} {s1 : Shared} {its : List Value} {ns : List Int}
    (KX : K.In s1.heap) (hmg : s1.heap.Ns mainGlobals mg) (hmb : s1.heap.Ns builtinsNs mb) (hbb : ∀ x : Str, x ≠ "__name__" → mb x = bootBuiltins x) (hlim : s1.heap.NoLimit) (hdig : s1.heap.NoDigits) (hgen : s1.gens = #[])
    (ha : s1.heap.get? a = some { cls := .type "list", data := .seq its.toArray }) (hi : IntsAre its ns) (hl : ns.length ≤ sizeLine) (hr : Room k callerA)
    (F : ∀ ba : Heap, K.In ba → ba.Ns mainGlobals mg → ba.NoDigits → GFn pr wo K mg ba CX0 k fa fd [x] sp) (hbi : ∀ (st : Shared) (u : Value), BindsTo st fd ⟨[u], []⟩ [(x, u)])
    (hsp : ∀ Hx : Hp, Only Hx → SqL K Hx a (ns.map V.int) → sp [.ref a] Hx (fun v _ => v = .bl true) E0) :
    codeAny (model pr wo) callerA (.call (.ref fa) ⟨[.ref a], []⟩) (fun r s2 => r = .ok (.ret (.bool true)) ∧ OldK s1.heap s2.heap ∧ s2.os = s1.os ∧ AllBare s2.gens) s1 := by
  have rv := vals_ints hi
  have main : ∀ Hx : Hp, Only Hx → SqL K Hx a (ns.map V.int) → HOk pr wo Hx s1.heap → (∀ b, Hx b ≠ none → b = a) → (Hx a ≠ none → K.lookup a = none) →
      codeAny (model pr wo) callerA (.call (.ref fa) ⟨[.ref a], []⟩) (fun r s2 => r = .ok (.ret (.bool true)) ∧ OldK s1.heap s2.heap ∧ s2.os = s1.os ∧ AllBare s2.gens) s1 := by
    intro Hx hO hS ok one free
    have isA : ∀ {b : Addr} {u : HO}, Hx b = some u → b = a := fun {b u} q => one b (by rw [q]; nofun)
    have hid : ∀ {b : Addr} {o : Obj}, s1.heap.get? b = some o → Hx b = none → (hidT s1.heap Hx).get? b = some o := fun e n => hidT_get e n
    have noD : ∀ {b : Addr} {o : Obj} {es : Array DictEntry} {ep : Nat}, s1.heap.get? b = some o → o.data = .dict es ep → Hx b = none := by
      intro b o es ep e d
      rcases q : Hx b with _ | u
      · rfl
      · rw [isA q, ha] at e
        cases e
        cases d
    have nsH : ∀ {b : Addr} {m : Str → Option Value}, s1.heap.Ns b m → (hidT s1.heap Hx).Ns b m := by
      rintro b m ⟨o, es, ep, e, d, r⟩
      exact ⟨o, es, ep, hid e (noD e d), d, r⟩
    have kin : K.In (hidT s1.heap Hx) := by
      intro b o e
      refine hid (KX b o e) ?_
      rcases q : Hx b with _ | u
      · rfl
      · have eb := isA q
        subst eb
        rw [free (by rw [q]; nofun)] at e
        cases e
    have hM : Mod K mg (hidT s1.heap Hx) := ⟨kin, nsH hmg, ⟨mb, nsH hmb, hbb⟩, by obtain ⟨mc, h1, h2⟩ := hlim; exact ⟨mc, nsH h1, h2⟩⟩
    have e0 : Env0 pr wo K mg (hidT s1.heap Hx) callerA [] s1 Hx := ⟨rfl, hM, fun b o e => of_hidT e, Nat.le_of_eq (hidT_size _ _), trivial, fun b hb => (nomatch hb), ok, .of_eq hgen⟩
    refine codeAny_mono ((F _ kin (nsH hmg) (by obtain ⟨mc, h1, h2⟩ := hdig; exact ⟨mc, nsH h1, h2⟩)).go callerA [] s1 Hx ⟨[.ref a], []⟩ [.ref a] [.ref a] _ _ rfl hr e0 (hbi s1 (.ref a)) (.cons rfl .nil) (hsp Hx hO hS)) fun r s2 h => ?_
    rcases r with e | fl
    · exact False.elim h
    · cases fl with
      | next => exact False.elim h
      | brk => exact False.elim h
      | cont => exact False.elim h
      | ret u =>
        obtain ⟨v, H2, os, bare, un, ok2, r2, q⟩ := h
        obtain rfl : v = .bl true := q
        obtain rfl : u = Value.bool true := r2
        refine ⟨rfl, OldK.of_keep fun b o e => ?_, os, bare⟩
        rcases q : Hx b with _ | u
        · exact un.keep b o e q (fun z => nomatch z) (fun z => nomatch z)
        · rcases hO b with z | ⟨ob, xs, z⟩
          · rw [q] at z; cases z
          · obtain ⟨e1, _⟩ := ok b _ z
            obtain ⟨e2, _⟩ := ok2 b _ (un.frzs b ob _ z)
            rw [e] at e1
            cases e1
            exact e2
  rcases hk : K.lookup a with _ | o
  · refine main (fun b => if b = a then some (.frz { cls := .type "list", data := .seq its.toArray } (.lst (ns.map V.int))) else none) (fun b => ?_) (.inl (.inr ⟨_, if_pos rfl⟩)) (fun b u z => ?_) (fun b z => ?_) fun _ => hk
    · by_cases hb : b = a
      · exact .inr ⟨_, _, if_pos hb⟩
      · exact .inl (if_neg hb)
    · by_cases hb : b = a
      · cases (if_pos hb).symm.trans z
        subst hb
        exact ⟨ha, by rw [List.length_map]; exact hl, its, _, rv, ha⟩
      · cases (if_neg hb).symm.trans z
    · by_cases hb : b = a
      · exact hb
      · exact absurd (if_neg hb) z
  · have e := KX a o hk
    rw [ha] at e
    cases e
    exact main (fun _ => none) (fun _ => .inl rfl) (.inr ⟨_, its.toArray, _, hk, rfl, rfl, rfl, by rw [List.size_toArray, hi.length]; exact hl, by simpa using rv⟩) (fun b u z => nomatch z) (fun b z => absurd rfl z) fun z => absurd rfl z

theorem walk_g {l : PySem.W.OpenLaw} {n k : Nat} {q : Program} {loose : List Str} {XP : (Str → Option Value) → Heap → Prop} {YP : World → Heap → Prop} {d : DefRec} {K : Params → PySem.W.Frag} {sp : PySem.W.Frag → Sp} {x : Str}
    (hn : l.most = some n) (hn2 : n ≤ sizeLine) (hdf : d.params.defaults = []) (hr : Room k callerA)
    (hY : ∀ (wo : World) (h : Heap), YP wo h → (K wo.params).In h)
    (F : ∀ (wo : World) (mg : Str → Option Value) (fa : Addr) (h : Heap), (K wo.params).In h → h.Ns mainGlobals mg → mg d.name = some (.ref fa) →
      ∃ fd : FuncData, (∀ (st : Shared) (u : Value), BindsTo st fd ⟨[u], []⟩ [(x, u)]) ∧
        ∀ ba : Heap, (K wo.params).In ba → ba.Ns mainGlobals mg → ba.NoDigits → GFn l.prog wo (K wo.params) mg ba CX0 k fa fd [x] (sp (K wo.params)))
    (hsp : ∀ (K : PySem.W.Frag) (Hx : Hp) (a : Addr) (ns : List Int), ns.length ≤ n → Only Hx → SqL K Hx a (ns.map V.int) → sp K [.ref a] Hx (fun v _ => v = .bl true) E0) :
    PySem.W.WalkO q loose XP YP l.row.toRowW d [] (fun f vs => PySem.call f vs) := by
  refine Att.attach_call hn hdf fun w s₀ s₁ mg mb fa o pm cd doc a vs ns G Y ho hd hcd hmg hobj hints hlen hg => ?_
  have KX := hY w _ Y
  obtain ⟨fd, hb, hF⟩ := F w mg fa _ KX G.T.g hmg
  exact law_g KX G.T.g G.T.b G.T.builtins G.T.nolimit G.T.nodigits hg hobj hints (Nat.le_trans hlen hn2) hr hF hb fun Hx hO hS => hsp _ Hx a ns hlen hO hS
end SG

/-! repr of data at any depth, with ints of up to 4300 figures. -/
namespace SG
open PySem PySem.Spec PyProof.Rows L2

mutual
/-- data whose ints can be told -/
def tellable : PyData → Bool
  | .int i => decide (i.natAbs < 10 ^ 4300)
  | .list xs => tellableAll xs
  | .tuple xs => tellableAll xs
  | .dict _ => false
  | .none => true
  | .bool _ => true
  | .str _ => true
def tellableAll : List PyData → Bool
  | [] => true
  | x :: xs => tellable x && tellableAll xs
end

section
variable {pr : Program} {wo : World} {B : Around} {Er : Value → Shared → Prop} {st : Shared}
theorem int_told {i : Int} {t : Tok} {Q : Value → Shared → Prop} (hn : st.heap.NoDigits) (hi : i.natAbs < 10 ^ 4300) (hq : Q (.str (toString i) st.toks) { st with toks := st.toks + 1 }) :
    wpAny (model pr wo) B (call (.builtin "int.__repr__") [.int i t]) Q Er st := by
  refine wpAny_call_entry F.slot_int_repr (typeIs_int st i t) F.entry_int_repr ?_ (F.args_int_repr_1 _)
  unfold Builtin.«int.__repr__»
  show wpAny _ _ (Builtin.overDigitLimit? i >>= _) _ _ st
  exact wpAny_bind (overDigitLimit_any hn (fun h => wpAny_bind (wpAny_mkStr (wpAny_pure ⟨_, rfl, hq⟩) (int_text_fits10 h))) fun h => absurd hi (Nat.not_lt.mpr h))
theorem int_shown {i : Int} {t : Tok} {Q : Value → Shared → Prop} (hu : B.units < cLine) (hn : st.heap.NoDigits) (hi : i.natAbs < 10 ^ 4300) (hq : Q (.str (toString i) st.toks) { st with toks := st.toks + 1 }) :
    wpAny (model pr wo) B (pyReprObj (.int i t)) Q Er st :=
  wpAny_pyReprObj_slot hu (typeIs_int _ i t) F.slot_int_repr.toG (int_told hn hi ⟨_, _, rfl, hq⟩)
theorem int_repr {i : Int} {t : Tok} {Q : Value → Shared → Prop} (hu : B.units + 1 < cLine) (hn : st.heap.NoDigits) (hi : i.natAbs < 10 ^ 4300) (hq : Q (.str (toString i) st.toks) { st with toks := st.toks + 1 }) :
    wpAny (model pr wo) B (call (.builtin "repr") [.int i t]) Q Er st :=
  call_repr_slot hu (typeIs_int _ i t) F.slot_int_repr.toG (int_told hn hi ⟨_, _, rfl, hq⟩)
theorem reprK_int {as : List Addr} {h₀ : Heap} {i : Int} {t : Tok} (hn : h₀.NoDigits) (hi : i.natAbs < 10 ^ 4300) (d : Nat) : ReprK pr wo as h₀ d (.int i t) (toString i) := by
  intro base hb A g E s Q hg hcl hu hk hQ
  rw [pyReprUnder_leaf (v := .int i t) (by omega) (fun _ e => nomatch e)]
  unfold pyRepr
  exact wpAny_bind (int_shown (by omega) (hn.keeps hk) hi (wpAny_pure (hQ s.heap _ fun _ _ e => e)))
mutual
theorem reprK_any {h₀ : Heap} (hn : h₀.NoDigits) : ∀ {v : Value} {d : PyData} {as : List Addr}, Reads h₀ v d as → tellable d = true → d.shown.length ≤ sizeLine →
    ∃ bs, ReadAtMost h₀ d.depth bs ∧ ReprK pr wo bs h₀ d.depth v d.shown := by
  intro v d as r ht hz
  cases r with
  | none => exact ⟨[], (fun _ h => nomatch h), by simp only [PyData.shown]; exact .of_is ReprIs.none _ _ _⟩
  | bool b => exact ⟨[], (fun _ h => nomatch h), by simp only [PyData.shown]; exact .of_is (ReprIs.bool b) _ _ _⟩
  | str x t => exact ⟨[], (fun _ h => nomatch h), by simp only [PyData.shown] at hz ⊢; exact .of_is (ReprIs.str x t hz) _ _ _⟩
  | int i t => exact ⟨[], (fun _ h => nomatch h), by simp only [PyData.shown]; exact reprK_int hn (of_decide_eq_true (by simpa only [tellable] using ht)) _⟩
  | list q1 q2 q3 q4 =>
    rename_i a o arr n xs bs₀
    have hz2 : (listText (PyData.shownAll xs)).length ≤ sizeLine := by simpa only [PyData.shown] using hz
    obtain ⟨bs, rb, kb⟩ := reprAllK_any hn q4 (by simpa [tellable] using ht) fun t m => Nat.le_trans (listText_mem_le m) hz2
    have whole : Reads h₀ (.ref a) (.list xs) _ := .list q1 q2 q3 q4
    refine ⟨a :: bs, ReadAtMost.cons whole (by simp only [PyData.depth]; omega) rb, ?_⟩
    have notIn : a ∉ bs := not_mem_of_deeper whole (by simp only [PyData.depth]; omega) rb
    simp only [PyData.depth, PyData.shown]
    rcases arr with ⟨_ | ⟨y, l⟩⟩
    · cases (show ReadsAll h₀ [] xs _ from q4)
      simp only [PyData.shownAll, listText_nil]
      exact ReprK.listEmpty q1 q2 q3
    · exact ReprK.list q1 q2 q3 notIn (by simpa using kb.length_eq) fun i y e => kb.item i y (by simpa using e)
  | tuple q1 q2 q3 q4 =>
    rename_i a o arr n xs
    have hz2 : (tupleText (PyData.shownAll xs)).length ≤ sizeLine := by simpa only [PyData.shown] using hz
    obtain ⟨bs, rb, kb⟩ := reprAllK_any hn q4 (by simpa [tellable] using ht) fun t m => Nat.le_trans (tupleText_mem_le m) hz2
    have whole : Reads h₀ (.ref a) (.tuple xs) _ := .tuple q1 q2 q3 q4
    refine ⟨a :: bs, ReadAtMost.cons whole (by simp only [PyData.depth]; omega) rb, ?_⟩
    have notIn : a ∉ bs := not_mem_of_deeper whole (by simp only [PyData.depth]; omega) rb
    simp only [PyData.depth, PyData.shown]
    exact ReprK.tuple q1 q2 q3 notIn kb
  | dict => simp [tellable] at ht
theorem reprAllK_any {h₀ : Heap} (hn : h₀.NoDigits) : ∀ {vs : List Value} {ds : List PyData} {as : List Addr}, ReadsAll h₀ vs ds as → tellableAll ds = true → (∀ t ∈ PyData.shownAll ds, t.length ≤ sizeLine) →
    ∃ bs, ReadAtMost h₀ (PyData.depthAll ds) bs ∧ ReprAllK pr wo bs h₀ (PyData.depthAll ds) vs (PyData.shownAll ds) := by
  intro vs ds as r ht hz
  cases r with
  | nil => exact ⟨[], (fun _ h => nomatch h), by simp only [PyData.shownAll]; exact .nil⟩
  | cons q1 q2 =>
    rename_i v vs d ds as₁ as₂
    have ht2 : tellable d = true ∧ tellableAll ds = true := by simpa [tellableAll] using ht
    obtain ⟨c1, rc1, k1⟩ := reprK_any hn q1 ht2.1 (hz _ (by simp only [PyData.shownAll]; exact List.mem_cons_self))
    obtain ⟨c2, rc2, k2⟩ := reprAllK_any hn q2 ht2.2 fun t m => hz t (by simp only [PyData.shownAll]; exact List.mem_cons_of_mem _ m)
    refine ⟨c1 ++ c2, (rc1.mono ?_).append (rc2.mono ?_), ?_⟩
    · simp only [PyData.depthAll]; exact Nat.le_max_left _ _
    · simp only [PyData.depthAll]; exact Nat.le_max_right _ _
    · simp only [PyData.depthAll, PyData.shownAll]
      exact .cons ((k1.more fun b m => List.mem_append_left _ m).level_le (Nat.le_max_left _ _)) (k2.more_le (fun b m => List.mem_append_right _ m) (Nat.le_max_right _ _))
end
/-- repr of what is no leaf -/
theorem repr_ref {h₀ : Heap} {a : Addr} {d : PyData} {as : List Addr} {Q : Value → Shared → Prop} (hn : h₀.NoDigits) (r : Reads h₀ (.ref a) d as) (ht : tellable d = true) (hz : d.shown.length ≤ sizeLine)
    (hg : B.guards = some []) (hu : B.units + (d.depth + 1) < cLine) (hk : ∀ b o, h₀.get? b = some o → st.heap.get? b = some o)
    (hQ : ∀ h2 u tk, (∀ b o, st.heap.get? b = some o → h2.get? b = some o) → Q (.str d.shown u) { st with heap := h2, toks := tk }) :
    wpAny (model pr wo) B (call (.builtin "repr") [.ref a]) Q Er st := by
  cases r with
  | list q1 q2 q3 q4 =>
    rename_i o arr n xs bs₀
    have whole : Reads h₀ (.ref a) (.list xs) _ := .list q1 q2 q3 q4
    simp only [PyData.depth] at hu
    simp only [PyData.shown] at hQ hz
    obtain ⟨bs, rb, kb⟩ := reprAllK_any (pr := pr) (wo := wo) hn q4 (by simpa [tellable] using ht) fun t m => Nat.le_trans (listText_mem_le m) hz
    have notIn : a ∉ bs := not_mem_of_deeper whole (by simp only [PyData.depth]; omega) rb
    refine call_repr_slot (by omega) ⟨o, hk _ _ q1, q2⟩ F.slot_list_repr.toG ?_
    rcases arr with ⟨_ | ⟨y, l⟩⟩
    · cases (show ReadsAll h₀ [] xs _ from q4)
      simp only [PyData.shownAll, listText_nil] at hQ
      exact call_list_repr_empty ⟨o, hk _ _ q1, q2⟩ (hk _ _ q1) q3 ⟨_, _, rfl, hQ st.heap _ _ fun _ _ e => e⟩
    · exact call_list_reprK q1 q2 q3 notIn (by simpa using kb.length_eq) (fun i y e => kb.item i y (by simpa using e)) hg (fun b _ => Clear.nil b) (by show B.units + 1 + _ < _; omega) hk (fun h2 u tk q => ⟨_, _, rfl, hQ h2 u tk q⟩) hz
  | tuple q1 q2 q3 q4 =>
    rename_i o arr n xs
    have whole : Reads h₀ (.ref a) (.tuple xs) _ := .tuple q1 q2 q3 q4
    simp only [PyData.depth] at hu
    simp only [PyData.shown] at hQ hz
    obtain ⟨bs, rb, kb⟩ := reprAllK_any (pr := pr) (wo := wo) hn q4 (by simpa [tellable] using ht) fun t m => Nat.le_trans (tupleText_mem_le m) hz
    have notIn : a ∉ bs := not_mem_of_deeper whole (by simp only [PyData.depth]; omega) rb
    refine call_repr_slot (by omega) ⟨o, hk _ _ q1, q2⟩ F.slot_tuple_repr ?_
    exact call_tuple_reprK q1 q2 q3 notIn kb hg (fun b _ => Clear.nil b) (by show B.units + 1 + _ < _; omega) hk (fun h2 u tk q => ⟨_, _, rfl, hQ h2 u tk q⟩) hz
  | dict => simp [tellable] at ht
/-- repr of the empty dict -/
theorem repr_dict0 {a : Addr} {o : Obj} {n : Nat} {Q : Value → Shared → Prop} (q1 : st.heap.get? a = some o) (q2 : o.cls = .type "dict") (q3 : o.data = .dict #[] n) (hs : (a == sysModules) = false)
    (hg : B.guards = some []) (hu : B.units + 2 < cLine)
    (hQ : ∀ h2 u tk, (∀ b o, st.heap.get? b = some o → h2.get? b = some o) → Q (.str "{}" u) { st with heap := h2, toks := tk }) :
    wpAny (model pr wo) B (call (.builtin "repr") [.ref a]) Q Er st := by
  have r : Reads st.heap (.ref a) (.dict []) ([a] ++ []) := .dict (as := []) (bs := []) q1 q2 q3 .nil .nil
  refine repr_of_reads' (d := .dict []) r rfl (fun _ m => ?_) hg (by show B.units + (PyData.depth (.dict []) + 1) < _; simp only [PyData.depth, PyData.depthKv]; omega) (fun _ _ e => e) ?_ (by decide +kernel)
  · have e : sysModules = a := by simpa using m
    rw [e] at hs
    simp at hs
  · have e : PyData.shown (.dict []) = "{}" := by decide +kernel
    rw [e]
    exact hQ
end

section
variable {X : Cx}
/-- no limit of its own was put to the figures of ints -/
theorem digs {pins : List (Addr × Obj)} {σ : L2.St} {Hx : Hp} {st : Shared} (hn : X.base.NoDigits) (I : Inv X pins σ Hx st) : st.heap.NoDigits := hn.keeps I.bk
def rRepr (K : PySem.W.Frag) : List V → Hp → VK → Prop := fun xs Hx R => ∃ x, xs = [x] ∧
  ((∃ d, Dp K Hx x d ∧ tellable d = true ∧ d.depth ≤ 60 ∧ d.shown.length ≤ sizeLine ∧ R (.str d.shown) Hx) ∨ (∃ a, x = .ref a ∧ Hx a = some (.dK []) ∧ R (.str "{}") Hx))
theorem call_reprG (hn : X.base.NoDigits) (hg : X.A.guards = some []) {k : Nat} (hr : Room k X.A) : CallR X (.builtin "repr") (rRepr X.K) := by
  intro pins st σ Hx xs us R I rv h
  obtain ⟨x, rfl, h⟩ := h
  obtain ⟨u, rfl, rx⟩ : ∃ u, us = [u] ∧ RelV x u := by
    cases rv with
    | cons a b => cases b; exact ⟨_, rfl, a⟩
  have hu := hr.units
  rcases h with ⟨d, hd, ht, hdep, hz, q⟩ | ⟨a, rfl, ha, q⟩
  · cases x with
    | ref a =>
      obtain ⟨as, r⟩ := Dp.reads I d (.ref a) u hd rx
      obtain rfl : u = Value.ref a := rx
      exact repr_ref (digs hn I) r ht hz hg (by omega) (fun _ _ e => e) fun h2 u tk hk => ⟨.str _, Hx, I.kept (t' := tk) hk, ⟨_, rfl⟩, q⟩
    | int i =>
      obtain ⟨t, rfl⟩ := rx
      cases hd
      simp only [PyData.shown] at q
      exact int_repr (by omega) (digs hn I) (of_decide_eq_true (by simpa only [tellable] using ht)) ⟨.str _, Hx, I.tok _, ⟨_, rfl⟩, q⟩
    | str y =>
      obtain ⟨t, rfl⟩ := rx
      cases hd
      simp only [PyData.shown] at q hz
      exact PySem.P.repr_of_str ⟨.str _, Hx, I.tok _, ⟨_, rfl⟩, q⟩ hz
    | bl b =>
      obtain rfl : u = Value.bool b := rx
      cases hd
      simp only [PyData.shown] at q
      exact PySem.P.repr_of_bool ⟨.str _, Hx, I.tok _, ⟨_, rfl⟩, q⟩
    | non =>
      obtain rfl : u = Value.none := rx
      cases hd
      simp only [PyData.shown] at q
      exact PySem.P.repr_of_none ⟨.str _, Hx, I.tok _, ⟨_, rfl⟩, q⟩
    | byt b => cases hd
    | flt b => cases hd
    | ty b => cases hd
  · obtain rfl : u = Value.ref a := rx
    obtain ⟨_, hs, vs, kv, o, es, ep, e1, e2, e3, e4, e5, _⟩ := I.hok a _ ha
    cases kv
    have e6 : es = #[] := by
      cases es with
      | mk l => cases l with
        | nil => rfl
        | cons y l => cases e5
    subst e6
    exact repr_dict0 e1 e2.1 e3 hs hg (by omega) fun h2 u tk hk => ⟨.str _, Hx, I.kept (t' := tk) hk, ⟨_, rfl⟩, q⟩
end
end SG

/-! enumerate of a tuple. -/
namespace SG
open PySem PySem.Spec PyProof.Rows L2

set_option maxHeartbeats 1000000 in
theorem meets_enum1 {v : Value} {o : Obj} {Ho : Heap → Prop} (B : Begins v o Ho) :
    Meets (Builtin.«enumerate.__new__» ⟨[.type "enumerate", v], []⟩) (fun _ R st => Ho st.heap ∧
      R (.ok (.ret (.ref (st.heap.push o).objs.size))) { st with heap := (st.heap.push o).push { cls := .type "enumerate", data := .fields #[.none, .bool false, .ref st.heap.objs.size, rawInt 0, .none, .none] } }) :=
  .of_wp fun prog w A R st h => by
    obtain ⟨hp, g, d, tk, os⟩ := st
    obtain ⟨h1, h⟩ := h
    have hsub := sub_enumerate
    have it1 : ∀ {A' : Around} {E : Value → Shared → Prop} {Q : Value → Shared → Prop}, Q (.ref hp.objs.size) ⟨hp.push o, g, d, tk, os⟩ → wpAny (model prog w) A' (pyIter v) Q E ⟨hp, g, d, tk, os⟩ :=
      fun q => B.iter prog w _ _ ⟨hp, g, d, tk, os⟩ _ h1 q
    wp_walk using it1
    refine wpAny_stack_any fun stk => wpAny_pure ?_
    split
    · rename_i c _ _ _ _ _
      cases (c == Value.type "enumerate")
      · wp_walk using it1
        exact ⟨_, rfl, h⟩
      · wp_walk using it1
        exact ⟨_, rfl, h⟩
    · wp_walk using it1
      exact ⟨_, rfl, h⟩
section
variable {prog : Program} {w : World} {A : Around} {E : Value → Shared → Prop} {st : Shared}
theorem enum1_begins {v : Value} {o : Obj} {Ho : Heap → Prop} {Q : Value → Shared → Prop} (B : Begins v o Ho) (h1 : Ho st.heap)
    (h : ∀ h2, IsEnum h2 (st.heap.objs.size + 1) st.heap.objs.size 0 .none → h2.get? st.heap.objs.size = some o → h2.objs.size = st.heap.objs.size + 2 →
      (∀ b u, st.heap.get? b = some u → h2.get? b = some u) → Q (.ref (st.heap.objs.size + 1)) { st with heap := h2 }) :
    wpAny (model prog w) A (call (.type "enumerate") [v]) Q E st := by
  refine callType_new F.called_enumerate (by decide) (F.typeCall_enumerate_1 _) (F.newCall_enumerate_1 _) (fun obj => F.args_object_init_2 obj _) F.entry_enumerate_new (meets_enum1 B) ⟨h1, ?_⟩
  have hz : (st.heap.push o).objs.size = st.heap.objs.size + 1 := Heap.size_push ..
  show _ ∧ _
  rw [hz]
  have he : IsEnum ((st.heap.push o).push { cls := .type "enumerate", data := .fields #[.none, .bool false, .ref st.heap.objs.size, rawInt 0, .none, .none] }) (st.heap.objs.size + 1) st.heap.objs.size 0 .none := by
    have z := Heap.get?_push_size (st.heap.push o) (o := { cls := .type "enumerate", data := .fields #[.none, .bool false, .ref st.heap.objs.size, rawInt 0, .none, .none] }) rfl
    rw [hz] at z
    exact z
  exact ⟨⟨_, he, rfl⟩, h _ he (Heap.get?_push_of_some _ (Heap.get?_push_size _ B.free)) (by rw [Heap.size_push, hz]) fun b u x => Heap.get?_push_of_some _ (Heap.get?_push_of_some _ x)⟩
end

/-- the tuple at a, each item in a new pair -/
def IteT (K : PySem.W.Frag) (a : Addr) : It :=
  ⟨fun i Hx => ∃ (xs : List V) (x : V), SqT K Hx a xs ∧ xs[i]? = some x, fun i Hx v H2 => ∃ T x, v = .ref T ∧ Hx T = none ∧ H2 = upd Hx T (.tup [.int (i : Nat), x]) ∧ ∀ xs, SqT K Hx a xs → xs[i]? = some x, fun i Hx => ∃ xs : List V, SqT K Hx a xs ∧ xs.length ≤ i⟩
theorem turn_enumT {P : Program} {w : World} {K : PySem.W.Frag} {elts : List Expr} {kk : Nat} {tpos : Pos} (a e it : Addr) :
    Turn P w K (.Tuple elts kk tpos) (IteT K a) [e, it] e (fun i h => (∃ old, IsEnum h e it ((i : Nat) : Int) old) ∧ h.IsTupleIter it a i ∧ e ≠ it ∧ a ≠ it ∧ a ≠ e) where
  mem := by simp
  obj := fun i h q b hb => by
    obtain ⟨⟨old, he⟩, ⟨o, ho, hc, hd⟩, _⟩ := q
    rcases (show b = e ∨ b = it by simpa using hb) with z | z
    · rw [z]; exact ⟨_, he, fun v q => nomatch q⟩
    · rw [z]; exact ⟨o, ho, fun v q => by rw [hd] at q; cases q⟩
  keep := fun i h h2 q k => by
    obtain ⟨⟨old, he⟩, hi, hne⟩ := q
    exact ⟨⟨old, k e (by simp) _ he⟩, hi.at fun o q => k it (by simp) o q, hne⟩
  item := by
    intro X hP hw hK hc i pins st σ Hx E I hf q hg
    subst hP hw hK
    obtain ⟨⟨old, he⟩, hit, hne, n1, n2⟩ := q
    obtain ⟨xs, x, hq, hx⟩ := hg
    obtain ⟨its, rv, p, hz⟩ := I.tuple hq
    obtain ⟨u, hu, ru⟩ := rv.get hx
    have hel : e < st.heap.objs.size := Heap.lt_size he
    have hil : it < st.heap.objs.size := by obtain ⟨_, z, _⟩ := hit; exact Heap.lt_size z
    have hi : i < its.toArray.size := by
      have z := (List.getElem?_eq_some_iff.mp hu).1
      simpa using z
    refine wpAny_pyNext_enum_itemD (Draws.tuple (prog := X.prog) (w := X.w) (A := X.A.in1) (I.ok.hd hc) it a n1 its.toArray) he ⟨hit, p⟩ hi hne (by simp [hne, n2.symm]) fun y h1 tk hy ho hs1 hT hsz hk => ?_
    obtain rfl : y = u := by
      rw [show its.toArray[i]? = some u by simpa using hu] at hy
      exact (Option.some.inj hy).symm
    refine ⟨_, rfl, wpAny_letOwnedTupleGo_enum (s := { st with heap := h1, toks := tk + 1 }) ho fun h2 he2 sb => ?_⟩
    have hT2 : h2.get? st.heap.objs.size = some { cls := .type "tuple", data := .seq #[.int i tk, y] } := (sb.2 _ (Nat.ne_of_gt hel)).trans hT
    have new : ObjOk X.prog X.w (upd Hx st.heap.objs.size (.tup [.int (i : Nat), x])) h2 st.heap.objs.size (.tup [.int (i : Nat), x]) :=
      ⟨by show 2 ≤ sizeLine; decide, [.int i tk, y], .cons ⟨_, rfl⟩ (.cons ru .nil), ⟨_, hT2, rfl, _, rfl⟩⟩
    have I1 : L2.Inv X pins σ (upd Hx st.heap.objs.size (.tup [.int (i : Nat), x])) { st with heap := h2, toks := tk + 1 } :=
      I.turnedNew (ch := [e, it]) (fun b ob hb z => (sb.2 b (fun z => hb (by simp [z]))).trans (hk b ob (fun z => hb (by simp [z])) (fun z => hb (by simp [z])) z)) hf (Nat.le_refl _) new
    refine ⟨.ref st.heap.objs.size, _, I1, rfl, ⟨_, x, rfl, I.hok.fresh (Nat.le_refl _), rfl, fun ys hy => by rw [I.tuple_inj hy hq]; exact hx⟩, ⟨⟨y, ?_⟩, hs1.1.at fun o z => (sb.2 it (Ne.symm hne)).trans z, hne, n1, n2⟩, fun b hb => ?_⟩
    · rw [show ((i + 1 : Nat) : Int) = (i : Int) + 1 by omega]
      exact he2
    · have hb2 : b < st.heap.objs.size := by
        rcases (show b = e ∨ b = it by simpa using hb) with z | z
        · rw [z]; exact hel
        · rw [z]; exact hil
      rw [upd_ne (Nat.ne_of_lt hb2)]
      exact (hf b hb).1
  done := by
    intro X hP hw hK hc i pins st σ Hx E I hf q hg
    subst hP hw hK
    obtain ⟨⟨old, he⟩, hit, hne, n1, n2⟩ := q
    obtain ⟨xs, hq, hx⟩ := hg
    obtain ⟨its, rv, p, hz⟩ := I.tuple hq
    obtain ⟨f0, f1, f2, f3, f4, f5⟩ := hf it (by simp)
    have hl := rv.length
    have D : Draws X.prog X.w X.A.in1 it [it, a] i (fun _ _ => True) (fun j h => j = i ∧ h.IsTupleIter it a i ∧ h.IsTuple a its.toArray) :=
      { live := fun _ _ z => by obtain ⟨_, ⟨o, ho, _⟩, _⟩ := z; exact ⟨o, ho⟩
        frame := fun _ _ _ z hk => ⟨z.1, z.2.1.at fun o e => hk it (by simp) o e, z.2.2.at fun o e => hk a (by simp) o e⟩
        item := fun j s Q E hj z => absurd z.1 (Nat.ne_of_lt hj)
        done := fun s Q E z hE => wpAny_nextOf_tuple_end (I.ok.hd hc) z.2.1 z.2.2 (by simp; omega) hE }
    exact wpAny_pyNext_enum_endD D he ⟨rfl, hit, p⟩ fun h2 eb => ⟨rfl, I.turned (t' := st.toks) (fun b o hb q => eb b o hb q) f0 f1 f3 f4 f5⟩
  self := fun A i st Q E q h => by
    obtain ⟨⟨_, he⟩, _⟩ := q
    exact wpAny_pyIter_enum he h
def iEnumT (K : PySem.W.Frag) (ta : TA) : TI := fun σ Hx R => ta σ Hx fun vs H1 => ∃ a xs, vs = [.ref a] ∧ SqT K H1 a xs ∧ R (IteT K a) H1
theorem pi_enumT {X : Cx} {e : Expr} {ta : TA} {p pos tpos : Pos} {elts : List Expr} {kk : Nat} (hg : Gl X "enumerate") (hm : X.mg "enumerate" = none) (ha : PA X [e] ta) (hs : starEach [e] X.env = [(false, eval e X.env)] := by rfl) :
    PI X (.Tuple elts kk tpos) (.Call (.Name "enumerate" p) [e] [] pos) (iEnumT X.K ta) := by
  refine ⟨fun pins st σ Hx R I h => ?_⟩
  refine Call_ (ld_blt I hg hm boot_enumerate (PyProof.Rows.callWith_type1 (thn (ha.run pos pins st σ Hx _ I h) ?_) hs rfl))
  rintro us s1 ⟨vs, H1, I1, r1, a, xs, rfl, hq, q⟩
  obtain ⟨u, rfl, ru⟩ : ∃ u, us = [u] ∧ RelV (.ref a) u := by
    cases r1 with
    | cons x y => cases y; exact ⟨_, rfl, x⟩
  obtain rfl : u = Value.ref a := ru
  obtain ⟨its, rv, p2, hz⟩ := I1.tuple hq
  have al : a < s1.heap.objs.size := p2.lt
  refine enum1_begins (begins_tuple a its.toArray) p2 fun h2 he hit hsz hk => wpAny_pyIter_enum he ?_
  have I2 : L2.Inv X pins σ H1 { s1 with heap := h2 } := I1.kept (t' := s1.toks) hk
  refine ⟨s1.heap.objs.size + 1, [s1.heap.objs.size + 1, s1.heap.objs.size], _, _, H1, rfl, I2, turn_enumT a (s1.heap.objs.size + 1) s1.heap.objs.size,
    ⟨⟨.none, he⟩, ⟨_, hit, rfl, rfl⟩, Nat.succ_ne_self _, Nat.ne_of_lt al, Nat.ne_of_lt (Nat.lt_succ_of_lt al)⟩, fun b hb => ?_, q⟩
  have hle : s1.heap.objs.size ≤ b := by
    rcases (show b = s1.heap.objs.size + 1 ∨ b = s1.heap.objs.size by simpa using hb) with z | z
    · rw [z]; exact Nat.le_succ _
    · rw [z]; exact Nat.le_refl _
  exact I1.fpOk hle (I1.hok.fresh hle)
end SG

/-! The deck that laws draw from; what stays when it is drawn from. -/
namespace SG
open PySem PySem.Spec PyProof.Rows L2

abbrev kC : Key := Sum.inr ("cells" : Str)
abbrev kM : Key := Sum.inr ("mixed" : Str)
abbrev kD : Key := Sum.inr ("draws" : Str)
theorem kne1 : ¬ kC = kM := by decide +kernel
theorem kne2 : ¬ kC = kD := by decide +kernel
theorem kne3 : ¬ kM = kD := by decide +kernel
def deckO (l : Addr) (m n : Int) : List (Key × V) := [(kC, .ref l), (kM, .int m), (kD, .int n)]
theorem deck_cells (l : Addr) (m n : Int) : valV (deckO l m n) kC = some (.ref l) := valV_pos rfl
theorem deck_mixed (l : Addr) (m n : Int) : valV (deckO l m n) kM = some (.int m) := (valV_neg kne1).trans (valV_pos rfl)
theorem deck_draws (l : Addr) (m n : Int) : valV (deckO l m n) kD = some (.int n) := (valV_neg kne2).trans ((valV_neg kne3).trans (valV_pos rfl))
theorem deck_put (l : Addr) (m n k : Int) : putK (deckO l m n) kD (.int k) = deckO l m k := by
  have e : (decide (kD = kD)) = true := decide_eq_true rfl
  show (if (decide (kC = kD) || (decide (kM = kD) || (decide (kD = kD) || false))) = true then [if kC = kD then (kC, V.int k) else (kC, V.ref l), if kM = kD then (kM, V.int k) else (kM, V.int m), if kD = kD then (kD, V.int k) else (kD, V.int n)] else _) = _
  rw [decide_eq_false kne2, decide_eq_false kne3, e, if_neg kne2, if_neg kne3, if_pos rfl]
  rfl
theorem deck_made (l : Addr) (m n : Int) : mergeK [] (deckO l m n) = deckO l m n := by
  have e1 : putK ([] : List (Key × V)) kC (.ref l) = [(kC, .ref l)] := rfl
  have e2 : putK [(kC, V.ref l)] kM (.int m) = [(kC, .ref l), (kM, .int m)] := by
    show (if (decide (kC = kM) || false) = true then _ else [(kC, V.ref l)] ++ [(kM, V.int m)]) = _
    rw [decide_eq_false kne1]
    rfl
  have e3 : putK [(kC, V.ref l), (kM, V.int m)] kD (.int n) = deckO l m n := by
    show (if (decide (kC = kD) || (decide (kM = kD) || false)) = true then _ else [(kC, V.ref l), (kM, V.int m)] ++ [(kD, V.int n)]) = _
    rw [decide_eq_false kne2, decide_eq_false kne3]
    rfl
  show putK (putK (putK [] kC (.ref l)) kM (.int m)) kD (.int n) = _
  rw [e1, e2, e3]

/-- a deck stands at d, its cells at l; it was asked at most c times -/
def Deck (H : Hp) (d l : Addr) (c : Nat) : Prop :=
  ∃ (cs : List Int) (m n : Int), H d = some (.dK (deckO l m n)) ∧ H l = some (.lst (cs.map V.int)) ∧ (0 ≤ m ∧ m < 2147483648) ∧ (0 ≤ n ∧ n ≤ (c : Int)) ∧ cs.length ≤ 63
/-- all stays but the deck and its cells -/
def Kept (d l : Addr) (H H2 : Hp) : Prop := ∀ b o, H b = some o → b ≠ d → b ≠ l → H2 b = some o
theorem Kept.refl (d l : Addr) (H : Hp) : Kept d l H H := fun _ _ e _ _ => e
theorem Kept.trans {d l : Addr} {H H1 H2 : Hp} (a : Kept d l H H1) (b : Kept d l H1 H2) : Kept d l H H2 := fun c o e h1 h2 => b c o (a c o e h1 h2) h1 h2
theorem Kept.of {d l : Addr} {H H1 : Hp} (a : Same H H1) : Kept d l H H1 := fun c o e _ _ => a c o e
theorem Deck.mono {H : Hp} {d l : Addr} {c e : Nat} (D : Deck H d l c) (h : c ≤ e) : Deck H d l e := by
  obtain ⟨cs, m, n, h1, h2, h3, h4, h5⟩ := D
  exact ⟨cs, m, n, h1, h2, h3, ⟨h4.1, by omega⟩, h5⟩
theorem Deck.same {H H1 : Hp} {d l : Addr} {c : Nat} (D : Deck H d l c) (s : Same H H1) : Deck H1 d l c := by
  obtain ⟨cs, m, n, h1, h2, h3⟩ := D
  exact ⟨cs, m, n, s _ _ h1, s _ _ h2, h3⟩
theorem Deck.upd {H : Hp} {d l p : Addr} {c : Nat} {o : HO} (D : Deck H d l c) (hp : H p = none) : Deck (upd H p o) d l c := by
  obtain ⟨cs, m, n, h1, h2, h3⟩ := D
  exact ⟨cs, m, n, by rw [upd_ne (ne_of_none h1 hp)]; exact h1, by rw [upd_ne (ne_of_none h2 hp)]; exact h2, h3⟩
theorem same_new {H : Hp} {p : Addr} {o : HO} (h : H p = none) : Same H (upd H p o) := fun b x e => by
  rw [upd_ne (ne_of_none e h)]
  exact e
/-- tuples stay -/
theorem Kept.tup {K : PySem.W.Frag} {d l : Addr} {H H2 : Hp} {c : Nat} {a : Addr} {xs : List V} (k : Kept d l H H2) (D : Deck H d l c) (h : SqT K H a xs) : SqT K H2 a xs := by
  obtain ⟨cs, m, n, h1, h2, _⟩ := D
  rcases h with (h | ⟨o, h⟩) | h
  · exact .inl (.inl (k _ _ h (ne_of h h1 nofun) (ne_of h h2 nofun)))
  · exact .inl (.inr ⟨o, k _ _ h (ne_of h h1 nofun) (ne_of h h2 nofun)⟩)
  · exact .inr h
theorem sameT {K : PySem.W.Frag} {H H2 : Hp} {a : Addr} {xs : List V} (s : Same H H2) (h : SqT K H a xs) : SqT K H2 a xs := by
  rcases h with (h | ⟨o, h⟩) | h
  · exact .inl (.inl (s _ _ h))
  · exact .inl (.inr ⟨o, s _ _ h⟩)
  · exact .inr h
/-! ### ints as data -/
def dI (ns : List Int) : List PyData := ns.map PyData.int
theorem dpInts {K : PySem.W.Frag} {H : Hp} : ∀ ns : List Int, DpAll K H (ns.map V.int) (dI ns)
  | [] => .nil
  | n :: ns => .cons (.int n) (dpInts ns)
theorem layI : ∀ ns : List Int, PyData.canLayAll0 (dI ns) = true
  | [] => by simp [dI, PyData.canLayAll0]
  | n :: ns => by
    show PyData.canLayAll0 (PyData.int n :: dI ns) = true
    simp [PyData.canLayAll0, PyData.canLay0, layI ns]
theorem depI : ∀ ns : List Int, PyData.depthAll (dI ns) = 0
  | [] => by simp [dI, PyData.depthAll]
  | n :: ns => by
    show PyData.depthAll (PyData.int n :: dI ns) = 0
    simp [PyData.depthAll, PyData.depth, depI ns]
theorem shI (ns : List Int) : SeqAt.shaped (.list (dI ns)) = true := by
  simp [SeqAt.shaped, PyData.canLay0, PyData.depth, layI, depI]
theorem shTI (ns : List Int) : SeqAt.shaped (.tuple (dI ns)) = true := by
  simp [SeqAt.shaped, PyData.canLay0, PyData.depth, layI, depI]
theorem eqvI_nil : ∀ ns : List Int, PyData.eqv (.list (dI ns)) (.list []) = ns.isEmpty
  | [] => by simp [dI, PyData.eqv, PyData.eqvAll]
  | n :: ns => by
    show PyData.eqv (.list (PyData.int n :: dI ns)) (.list []) = false
    simp [PyData.eqv, PyData.eqvAll]
theorem dgCells {H : Hp} {d l : Addr} {m n : Int} (h : H d = some (.dK (deckO l m n))) : DGet H d (.str "cells") (some (.ref l)) := by
  have z := DGet.k (k := kC) h
  rw [deck_cells] at z
  exact z
theorem dgMixed {H : Hp} {d l : Addr} {m n : Int} (h : H d = some (.dK (deckO l m n))) : DGet H d (.str "mixed") (some (.int m)) := by
  have z := DGet.k (k := kM) h
  rw [deck_mixed] at z
  exact z
theorem dgDraws {H : Hp} {d l : Addr} {m n : Int} (h : H d = some (.dK (deckO l m n))) : DGet H d (.str "draws") (some (.int n)) := by
  have z := DGet.k (k := kD) h
  rw [deck_draws] at z
  exact z
theorem dpDraws {H : Hp} {d l : Addr} {m n : Int} (k : Int) (h : H d = some (.dK (deckO l m n))) : DPut H d (.str "draws") (.int k) (upd H d (.dK (deckO l m k))) := by
  have z := DPut.k (k := kD) (v := .int k) h (by show 3 < sizeLine; decide)
  rw [deck_put] at z
  exact z
theorem ifT {b : Bool} {A B : Prop} (h : b = true) (a : A) : if b = true then A else B := by
  rw [if_pos h]
  exact a
theorem ifF {b : Bool} {A B : Prop} (h : b = false) (a : B) : if b = true then A else B := by
  rw [h]
  exact iteF a
theorem mod_lo {a b : Int} (h : 0 < b) : 0 ≤ a % b := Int.emod_nonneg a (by omega)
theorem mod_hi {a b : Int} (h : 0 < b) : a % b < b := Int.emod_lt_of_pos a h
end SG

namespace SG
open PySem PySem.Spec PyProof.Rows L2

theorem Kept.lst {K : PySem.W.Frag} {d l : Addr} {H H2 : Hp} {c : Nat} {a : Addr} {xs : List V} (k : Kept d l H H2) (D : Deck H d l c) (hl : a ≠ l) (h : SqL K H a xs) : SqL K H2 a xs := by
  obtain ⟨cs, m, n, h1, h2, _⟩ := D
  rcases h with (h | ⟨o, h⟩) | h
  · exact .inl (.inl (k _ _ h (ne_of h h1 nofun) hl))
  · exact .inl (.inr ⟨o, k _ _ h (ne_of h h1 nofun) hl⟩)
  · exact .inr h
theorem Deck.ne {H : Hp} {d l p : Addr} {c : Nat} (D : Deck H d l c) (h : H p = none) : p ≠ d ∧ p ≠ l := by
  obtain ⟨cs, m, n, h1, h2, _⟩ := D
  exact ⟨(ne_of_none h1 h).symm, (ne_of_none h2 h).symm⟩
theorem wipe1 (σ : L2.St) (s : Nat) (x : Option V) : wipe ((wipe σ [s]).set s x) [s] = wipe σ [s] := by
  show (List.set (List.set (List.set σ s none) s x) s none) = List.set σ s none
  rw [List.set_set, List.set_set]
theorem yesI {A B : Hp → Prop} {σ : L2.St} {H : Hp} (h : A H) : tYes σ H (fun b H4 => if b = true then A H4 else B H4) := by
  show (if (true : Bool) = true then A H else B H)
  rw [if_pos rfl]
  exact h
/-- a list of ints that are drawn, turn by turn -/
theorem lc_draws {d l D : Addr} {c n s : Nat} {te : TE} {σ : L2.St} {H1 : Hp} {Qd : Hp → Prop} {B : Int → Prop} (D0 : Deck H1 d l c) (hD : H1 D = none) (hn : n ≤ 1000)
    (turn : ∀ (i : Nat) (H2 : Hp), i < n → Deck H2 d l (c + i) → Kept d l H1 H2 → ∀ R : VK, (∀ (x : Int) (H3 : Hp), B x → Deck H3 d l (c + i + 1) → Kept d l H2 H3 → R (.int x) H3) → te ((wipe σ [s]).set s (some (.int (0 + i)))) H2 R)
    (done : ∀ (xs : List Int) (H2 : Hp), xs.length = n → (∀ x ∈ xs, B x) → H2 D = some (.lst (xs.map V.int)) → Deck H2 d l (c + n) → Kept d l H1 H2 → Qd H2) :
    ∃ W : Nat → Nat → Hp → Prop, (∃ m, W 0 m (upd H1 D (.lst []))) ∧ ∀ i m H, W i m H →
      ((Itr 0 n).stop i H ∧ Qd H) ∨ ((Itr 0 n).go i H ∧ ∃ Nx : Hp → Prop, (∀ H2, Nx H2 → ∃ m2, m2 < m ∧ W (i + 1) m2 H2) ∧ ∀ x H2, (Itr 0 n).yld i H x H2 → gName s x (wipe σ [s]) H2 fun σ2 H3 => wipe σ2 [s] = wipe σ [s] ∧ tYes σ2 H3 fun b H4 =>
        if b = true then te σ2 H4 fun y H5 => ∃ acc, H5 D = some (.lst acc) ∧ acc.length < sizeLine ∧ Nx (upd H5 D (.lst (acc ++ [y]))) else Nx H4) := by
  obtain ⟨nd, nl⟩ := D0.ne hD
  refine lc_range (fun i H2 => ∃ xs : List Int, xs.length = i ∧ (∀ x ∈ xs, B x) ∧ H2 D = some (.lst (xs.map V.int)) ∧ Deck H2 d l (c + i) ∧ Kept d l H1 H2) ?_ ?_ ?_
  · exact ⟨[], rfl, (fun _ h => absurd h List.not_mem_nil), upd_same, D0.upd hD, .of (same_new hD)⟩
  · rintro i H2 hi ⟨xs, hx, hB, hD2, D2, k2⟩
    refine ⟨wipe1 _ _ _, ?_⟩
    refine yesI ?_
    refine turn i H2 hi D2 k2 _ fun x H3 hb D3 k3 => ⟨xs.map V.int, k3 _ _ hD2 nd nl, ?_, xs ++ [x], by simp [hx], fun y hy => ?_, ?_, ?_, ?_⟩
    · rw [List.length_map, hx]
      exact small1000 (by omega)
    · rcases List.mem_append.mp hy with h | h
      · exact hB y h
      · rw [List.mem_singleton.mp h]; exact hb
    · rw [upd_same, List.map_append]
      rfl
    · obtain ⟨cs, m, k, h1, h2, h3⟩ := D3
      exact ⟨cs, m, k, by rw [upd_ne nd.symm]; exact h1, by rw [upd_ne nl.symm]; exact h2, h3⟩
    · intro b o e h1 h2
      rw [upd_ne (ne_of_none e hD)]
      exact k3 _ _ (k2 _ _ e h1 h2) h1 h2
  · rintro H2 ⟨xs, hx, hB, hD2, D2, k2⟩
    exact done xs H2 hx hB hD2 D2 k2
end SG

namespace SG
open PySem PySem.Spec PyProof.Rows L2

/-- a comprehension over enumerate of a tuple -/
theorem lc_enumT {K : PySem.W.Frag} {a D : Addr} {xs : List V} {g : TG} {tt : TT} {te : TE} {vs : List Nat} {σ : L2.St} {H1 : Hp} {Qd : Hp → Prop} (Pv : Nat → Hp → Prop) (h0 : Pv 0 (upd H1 D (.lst []))) (hl : ∀ i H, i ≤ xs.length → Pv i H → SqT K H a xs)
    (hs : ∀ (i : Nat) (x : V) (H : Hp) (T : Addr), xs[i]? = some x → Pv i H → H T = none → g (.ref T) (wipe σ vs) (upd H T (.tup [.int (i : Nat), x])) fun σ2 H2 => wipe σ2 vs = wipe σ vs ∧ tt σ2 H2 fun b H3 =>
      if b = true then te σ2 H3 fun y H4 => ∃ acc, H4 D = some (.lst acc) ∧ acc.length < sizeLine ∧ Pv (i + 1) (upd H4 D (.lst (acc ++ [y]))) else Pv (i + 1) H3) (hd : ∀ H, Pv xs.length H → Qd H) :
    ∃ W : Nat → Nat → Hp → Prop, (∃ m, W 0 m (upd H1 D (.lst []))) ∧ ∀ i m H, W i m H →
      ((IteT K a).stop i H ∧ Qd H) ∨ ((IteT K a).go i H ∧ ∃ Nx : Hp → Prop, (∀ H2, Nx H2 → ∃ m2, m2 < m ∧ W (i + 1) m2 H2) ∧ ∀ x H2, (IteT K a).yld i H x H2 → g x (wipe σ vs) H2 fun σ2 H3 => wipe σ2 vs = wipe σ vs ∧ tt σ2 H3 fun b H4 =>
        if b = true then te σ2 H4 fun y H5 => ∃ acc, H5 D = some (.lst acc) ∧ acc.length < sizeLine ∧ Nx (upd H5 D (.lst (acc ++ [y]))) else Nx H4) := by
  refine ⟨fun i m H => m = xs.length - i ∧ i ≤ xs.length ∧ Pv i H, ⟨xs.length, by simp, Nat.zero_le _, h0⟩, ?_⟩
  rintro i m H ⟨rfl, hi, p⟩
  have q := hl i H hi p
  rcases Nat.lt_or_eq_of_le hi with hlt | rfl
  · refine .inr ⟨⟨xs, xs[i], q, by simp [hlt]⟩, Pv (i + 1), fun H2 p2 => ⟨xs.length - (i + 1), by omega, rfl, hlt, p2⟩, ?_⟩
    rintro x H2 ⟨T, x, rfl, hT, rfl, hx⟩
    exact hs i x H T (hx xs q) p hT
  · exact .inl ⟨⟨xs, q, Nat.le_refl _⟩, hd H p⟩
theorem wipe2 (σ : L2.St) (s1 s2 : Nat) (x y : Option V) : wipe (((wipe σ [s1, s2]).set s1 x).set s2 y) [s1, s2] = wipe σ [s1, s2] := by
  show List.set (List.set (List.set (List.set (List.set (List.set σ s2 none) s1 none) s1 x) s2 y) s2 none) s1 none = List.set (List.set σ s2 none) s1 none
  by_cases e : s1 = s2
  · subst e
    simp [List.set_set]
  · have z1 : List.set (List.set (List.set (List.set σ s2 none) s1 none) s1 x) s2 y = List.set (List.set (List.set σ s2 none) s1 x) s2 y := by rw [List.set_set]
    rw [z1]
    refine List.ext_getElem? fun i => ?_
    simp only [List.getElem?_set, List.length_set]
    split <;> split <;> rfl
  -- rw [List.set_set, List.set_comm x none e, List.set_set, List.set_comm none none (Ne.symm e), List.set_set]
theorem same_upd_of {H H2 : Hp} {p : Addr} {o : HO} (s : Same H H2) (h : H p = none) : Same H (upd H2 p o) := fun b x e => by
  rw [upd_ne (ne_of_none e h)]
  exact s _ _ e
/-- .. whose items are told ahead, and that makes new objects alone -/
theorem lc_enumS {K : PySem.W.Frag} {a D : Addr} {xs ys : List V} {te : TE} {s1 s2 : Nat} {σ : L2.St} {H1 : Hp} {Qd : Hp → Prop} (hn : xs.length ≤ 1000) (hD : H1 D = none) (hS : SqT K H1 a xs) (hy : ys.length = xs.length)
    (turn : ∀ (i : Nat) (x y : V) (H2 : Hp), xs[i]? = some x → ys[i]? = some y → Same H1 H2 → ∀ R : VK, (∀ H3, Same H2 H3 → R y H3) → te (((wipe σ [s1, s2]).set s1 (some (.int (i : Nat)))).set s2 (some x)) H2 R)
    (done : ∀ H2, Same H1 H2 → H2 D = some (.lst ys) → Qd H2) :
    ∃ W : Nat → Nat → Hp → Prop, (∃ m, W 0 m (upd H1 D (.lst []))) ∧ ∀ i m H, W i m H →
      ((IteT K a).stop i H ∧ Qd H) ∨ ((IteT K a).go i H ∧ ∃ Nx : Hp → Prop, (∀ H2, Nx H2 → ∃ m2, m2 < m ∧ W (i + 1) m2 H2) ∧ ∀ x H2, (IteT K a).yld i H x H2 → gTup K 2 (gCons (gName s1) (gCons (gName s2) gNil)) x (wipe σ [s1, s2]) H2 fun σ2 H3 => wipe σ2 [s1, s2] = wipe σ [s1, s2] ∧ tYes σ2 H3 fun b H4 =>
        if b = true then te σ2 H4 fun y H5 => ∃ acc, H5 D = some (.lst acc) ∧ acc.length < sizeLine ∧ Nx (upd H5 D (.lst (acc ++ [y]))) else Nx H4) := by
  refine lc_enumT (xs := xs) (fun i H2 => Same H1 H2 ∧ H2 D = some (.lst (ys.take i))) ⟨same_new hD, by rw [upd_same, List.take_zero]⟩ (fun i H2 _ p => sameT p.1 hS) ?_ ?_
  · rintro i x H2 T hx ⟨s, h2⟩ hT
    have hi : i < ys.length := by rw [hy]; exact (List.getElem?_eq_some_iff.mp hx).1
    have hyi : ys[i]? = some ys[i] := List.getElem?_eq_getElem hi
    refine ⟨T, _, rfl, .inl (.inl upd_same), rfl, _, _, rfl, _, _, rfl, rfl, wipe2 _ _ _ _ _, ?_⟩
    refine yesI ?_
    have s1 : Same H1 (upd H2 T (.tup [.int (i : Nat), x])) := s.trans (same_new hT)
    have hD2 : (upd H2 T (.tup [.int (i : Nat), x])) D = some (.lst (ys.take i)) := same_new hT _ _ h2
    refine turn i x _ _ hx hyi s1 _ fun H3 s3 => ⟨ys.take i, s3 _ _ hD2, ?_, same_upd_of (s1.trans s3) hD, ?_⟩
    · rw [List.length_take]
      exact small1000 (by omega)
    · rw [upd_same, List.take_add_one, hyi]
      rfl
  · rintro H2 ⟨s, h2⟩
    refine done H2 s ?_
    rw [h2, ← hy, List.take_length]
end SG

namespace SG
open PySem PySem.Spec PyProof.Rows L2
/-- a comprehension over a tuple, whose items are told ahead, and that makes new objects alone -/
theorem lc_tupS {K : PySem.W.Frag} {a D : Addr} {xs ys : List V} {te : TE} {s : Nat} {σ : L2.St} {H1 : Hp} {Qd : Hp → Prop} (hn : xs.length ≤ 1000) (hD : H1 D = none) (hS : SqT K H1 a xs) (hy : ys.length = xs.length)
    (turn : ∀ (i : Nat) (x y : V) (H2 : Hp), xs[i]? = some x → ys[i]? = some y → Same H1 H2 → ∀ R : VK, (∀ H3, Same H2 H3 → R y H3) → te ((wipe σ [s]).set s (some x)) H2 R)
    (done : ∀ H2, Same H1 H2 → H2 D = some (.lst ys) → Qd H2) :
    ∃ W : Nat → Nat → Hp → Prop, (∃ m, W 0 m (upd H1 D (.lst []))) ∧ ∀ i m H, W i m H →
      ((Itt K a).stop i H ∧ Qd H) ∨ ((Itt K a).go i H ∧ ∃ Nx : Hp → Prop, (∀ H2, Nx H2 → ∃ m2, m2 < m ∧ W (i + 1) m2 H2) ∧ ∀ x H2, (Itt K a).yld i H x H2 → gName s x (wipe σ [s]) H2 fun σ2 H3 => wipe σ2 [s] = wipe σ [s] ∧ tYes σ2 H3 fun b H4 =>
        if b = true then te σ2 H4 fun y H5 => ∃ acc, H5 D = some (.lst acc) ∧ acc.length < sizeLine ∧ Nx (upd H5 D (.lst (acc ++ [y]))) else Nx H4) := by
  refine lc_tup (xs := xs) (fun i H2 => Same H1 H2 ∧ H2 D = some (.lst (ys.take i))) ⟨same_new hD, by rw [upd_same, List.take_zero]⟩ (fun i H2 _ p => sameT p.1 hS) ?_ ?_
  · rintro i x H2 hx ⟨sm, h2⟩
    have hi : i < ys.length := by rw [hy]; exact (List.getElem?_eq_some_iff.mp hx).1
    have hyi : ys[i]? = some ys[i] := List.getElem?_eq_getElem hi
    refine ⟨wipe1 _ _ _, ?_⟩
    refine yesI ?_
    refine turn i x _ _ hx hyi sm _ fun H3 s3 => ⟨ys.take i, s3 _ _ h2, ?_, same_upd_of (sm.trans s3) hD, ?_⟩
    · rw [List.length_take]
      exact small1000 (by omega)
    · rw [upd_same, List.take_add_one, hyi]
      rfl
  · rintro H2 ⟨sm, h2⟩
    refine done H2 sm ?_
    rw [h2, ← hy, List.take_length]
/-- the same over a list -/
theorem lc_listS {K : PySem.W.Frag} {a D : Addr} {xs ys : List V} {te : TE} {s : Nat} {σ : L2.St} {H1 : Hp} {Qd : Hp → Prop} (hn : xs.length ≤ 1000) (hD : H1 D = none) (hS : SqL K H1 a xs) (hy : ys.length = xs.length)
    (turn : ∀ (i : Nat) (x y : V) (H2 : Hp), xs[i]? = some x → ys[i]? = some y → Same H1 H2 → ∀ R : VK, (∀ H3, Same H2 H3 → R y H3) → te ((wipe σ [s]).set s (some x)) H2 R)
    (done : ∀ H2, Same H1 H2 → H2 D = some (.lst ys) → Qd H2) :
    ∃ W : Nat → Nat → Hp → Prop, (∃ m, W 0 m (upd H1 D (.lst []))) ∧ ∀ i m H, W i m H →
      ((Itl K a).stop i H ∧ Qd H) ∨ ((Itl K a).go i H ∧ ∃ Nx : Hp → Prop, (∀ H2, Nx H2 → ∃ m2, m2 < m ∧ W (i + 1) m2 H2) ∧ ∀ x H2, (Itl K a).yld i H x H2 → gName s x (wipe σ [s]) H2 fun σ2 H3 => wipe σ2 [s] = wipe σ [s] ∧ tYes σ2 H3 fun b H4 =>
        if b = true then te σ2 H4 fun y H5 => ∃ acc, H5 D = some (.lst acc) ∧ acc.length < sizeLine ∧ Nx (upd H5 D (.lst (acc ++ [y]))) else Nx H4) := by
  refine lc_list (xs := xs) (fun i H2 => Same H1 H2 ∧ H2 D = some (.lst (ys.take i))) ⟨same_new hD, by rw [upd_same, List.take_zero]⟩ (fun i H2 _ p => p.1.seq hS) ?_ ?_
  · rintro i x H2 hx ⟨sm, h2⟩
    have hi : i < ys.length := by rw [hy]; exact (List.getElem?_eq_some_iff.mp hx).1
    have hyi : ys[i]? = some ys[i] := List.getElem?_eq_getElem hi
    refine ⟨wipe1 _ _ _, ?_⟩
    refine yesI ?_
    refine turn i x _ _ hx hyi sm _ fun H3 s3 => ⟨ys.take i, s3 _ _ h2, ?_, same_upd_of (sm.trans s3) hD, ?_⟩
    · rw [List.length_take]
      exact small1000 (by omega)
    · rw [upd_same, List.take_add_one, hyi]
      rfl
  · rintro H2 ⟨sm, h2⟩
    refine done H2 sm ?_
    rw [h2, ← hy, List.take_length]
/-- the same over a list, its target a pair -/
theorem lc_listP {K : PySem.W.Frag} {a D : Addr} {xs ys : List V} {te : TE} {s1 s2 : Nat} {σ : L2.St} {H1 : Hp} {Qd : Hp → Prop} (hn : xs.length ≤ 1000) (hD : H1 D = none) (hS : SqL K H1 a xs) (hy : ys.length = xs.length)
    (turn : ∀ (i : Nat) (x y : V) (H2 : Hp), xs[i]? = some x → ys[i]? = some y → Same H1 H2 → ∃ p u v, x = .ref p ∧ SqT K H2 p [u, v] ∧ ∀ R : VK, (∀ H3, Same H2 H3 → R y H3) → te (((wipe σ [s1, s2]).set s1 (some u)).set s2 (some v)) H2 R)
    (done : ∀ H2, Same H1 H2 → H2 D = some (.lst ys) → Qd H2) :
    ∃ W : Nat → Nat → Hp → Prop, (∃ m, W 0 m (upd H1 D (.lst []))) ∧ ∀ i m H, W i m H →
      ((Itl K a).stop i H ∧ Qd H) ∨ ((Itl K a).go i H ∧ ∃ Nx : Hp → Prop, (∀ H2, Nx H2 → ∃ m2, m2 < m ∧ W (i + 1) m2 H2) ∧ ∀ x H2, (Itl K a).yld i H x H2 → gTup K 2 (gCons (gName s1) (gCons (gName s2) gNil)) x (wipe σ [s1, s2]) H2 fun σ2 H3 => wipe σ2 [s1, s2] = wipe σ [s1, s2] ∧ tYes σ2 H3 fun b H4 =>
        if b = true then te σ2 H4 fun y H5 => ∃ acc, H5 D = some (.lst acc) ∧ acc.length < sizeLine ∧ Nx (upd H5 D (.lst (acc ++ [y]))) else Nx H4) := by
  refine lc_list (xs := xs) (fun i H2 => Same H1 H2 ∧ H2 D = some (.lst (ys.take i))) ⟨same_new hD, by rw [upd_same, List.take_zero]⟩ (fun i H2 _ p => p.1.seq hS) ?_ ?_
  · rintro i x H2 hx ⟨sm, h2⟩
    have hi : i < ys.length := by rw [hy]; exact (List.getElem?_eq_some_iff.mp hx).1
    have hyi : ys[i]? = some ys[i] := List.getElem?_eq_getElem hi
    obtain ⟨p, u, v, rfl, hp, tn⟩ := turn i x _ _ hx hyi sm
    refine ⟨p, _, rfl, hp, rfl, _, _, rfl, _, _, rfl, rfl, wipe2 _ _ _ _ _, ?_⟩
    refine yesI ?_
    refine tn _ fun H3 s3 => ⟨ys.take i, s3 _ _ h2, ?_, same_upd_of (sm.trans s3) hD, ?_⟩
    · rw [List.length_take]
      exact small1000 (by omega)
    · rw [upd_same, List.take_add_one, hyi]
      rfl
  · rintro H2 ⟨sm, h2⟩
    refine done H2 sm ?_
    rw [h2, ← hy, List.take_length]
end SG

/-! The rules that speak of the written part, with it as a letter: so they serve in a comprehension too. -/
namespace SG
open PySem PySem.Spec PyProof.Rows L2
section
variable {X : Cx} {K : PySem.W.Frag}
def rLenS (K : PySem.W.Frag) : List V → Hp → VK → Prop := fun xs H Q => ∃ p ys, xs = [.ref p] ∧ (SqL K H p ys ∨ SqT K H p ys) ∧ Q (.int ys.length) H
def rListOf (K : PySem.W.Frag) : List V → Hp → VK → Prop := fun xs H Q => ∃ p ys, xs = [.ref p] ∧ (SqL K H p ys ∨ SqT K H p ys) ∧ ∀ l, H l = none → Q (.ref l) (upd H l (.lst ys))
def rTupOf (K : PySem.W.Frag) : List V → Hp → VK → Prop := fun xs H Q => ∃ p ys, xs = [.ref p] ∧ ((SqL K H p ys ∧ ∀ l, H l = none → Q (.ref l) (upd H l (.tup ys))) ∨ (SqT K H p ys ∧ Q (.ref p) H))
theorem k_len (e : X.K = K := by rfl) : CallR X (.builtin "len") (rLenS K) := e ▸ call_len_seq
theorem k_listOf (e : X.K = K := by rfl) : CallR X (.type "list") (rListOf K) := e ▸ call_list_of
theorem k_tupOf (e : X.K = K := by rfl) : CallR X (.type "tuple") (rTupOf K) := e ▸ call_tuple_of
theorem k_sum (hc : X.calm = true) (e : X.K = K := by rfl) : CallR X (.builtin "sum") (rSum K) := e ▸ cr_sum hc
theorem k_all (hc : X.calm = true) (e : X.K = K := by rfl) : CallR X (.builtin "all") (rAll K) := e ▸ cr_all hc
theorem k_any (hc : X.calm = true) (e : X.K = K := by rfl) : CallR X (.builtin "any") (rAny K) := e ▸ cr_any hc
theorem k_isi (e : X.K = K := by rfl) : CallR X (.builtin "isinstance") (rIsi K) := e ▸ call_isi
theorem k_repr {k : Nat} (hn : X.base.NoDigits) (hg : X.A.guards = some []) (hr : Room k X.A) (e : X.K = K := by rfl) : CallR X (.builtin "repr") (rRepr K) := e ▸ call_reprG hn hg hr
theorem k_ixL (e : X.K = K := by rfl) : IxR X (rIxL K) := e ▸ ix_list
theorem k_ixT (e : X.K = K := by rfl) : IxR X (rIxT K) := e ▸ ix_tup
theorem k_ix (e : X.K = K := by rfl) : IxR X (rIx K) := e ▸ ix_seq
theorem k_slL (e : X.K = K := by rfl) : SlR X (rSlL K) := e ▸ sl_list
theorem k_slT (e : X.K = K := by rfl) : SlR X (rSlA K) := e ▸ sl_tupA
theorem k_catT (e : X.K = K := by rfl) : OpR X (binaryOp .Add) (rCatA K) := e ▸ op_catA
theorem k_eqD (hu : X.A.units + 64 < cLine) (e : X.K = K := by rfl) : OpR X (compareOp .Eq) (rEqD K) := e ▸ op_eqD hu
theorem k_neD (hu : X.A.units + 64 < cLine) (e : X.K = K := by rfl) : OpR X (compareOp .NotEq) (rNeD K) := e ▸ op_neD hu
theorem k_rev {x : Expr} {k} {p1 p2 p3 pos : Pos} {te : TE} (he : PE X x te) (e : X.K = K := by rfl) : PE X (.Subscript x (.Slice none none (some (.UnaryOp .USub (.Constant (.int 1) k p1) p2)) p3) pos) (tRevL K te) := e ▸ pe_revL he
theorem k_tg {es : List Expr} {k : Nat} {t : TGs} {n : Nat} {pos : Pos} (hc : X.calm = true) (h : PGs X es t) (hn : (assignEach es X.env).length = n := by rfl) (hst : (assignEach es X.env).findIdx? (·.1) = none := by rfl) (e : X.K = K := by rfl) : PG X (.Tuple es k pos) (gTup K n t) := e ▸ pg_tup hc h hn hst
theorem k_enumT {x : Expr} {ta : TA} {p pos tpos : Pos} {elts : List Expr} {kk : Nat} (hg : Gl X "enumerate") (hm : X.mg "enumerate" = none) (ha : PA X [x] ta) (hs : starEach [x] X.env = [(false, eval x X.env)] := by rfl) (e : X.K = K := by rfl) :
    PI X (.Tuple elts kk tpos) (.Call (.Name "enumerate" p) [x] [] pos) (iEnumT K ta) := e ▸ pi_enumT hg hm ha hs
theorem k_enum {x : Expr} {ta : TA} {p pos tpos : Pos} {elts : List Expr} {kk : Nat} (hg : Gl X "enumerate") (hm : X.mg "enumerate" = none) (ha : PA X [x] ta) (hs : starEach [x] X.env = [(false, eval x X.env)] := by rfl) (e : X.K = K := by rfl) :
    PI X (.Tuple elts kk tpos) (.Call (.Name "enumerate" p) [x] [] pos) (iEnum K ta) := e ▸ pi_enum hg hm ha hs
end
end SG

/-! Own exception classes of any line of own classes over Exception: made with one value that their __init__ stores, raised. -/
namespace SG
open PySem PySem.Spec PyProof.Rows L2
section
open PySem.HandSPX Builtin Builtin.ObjectAttr
abbrev exEnd : List Value := [.type "Exception", .type "BaseException", .type "object"]
/-- own classes, behind them those of Exception -/
def OverEx (l : List Value) : Prop := ∃ cs : List Addr, l = cs.map Value.ref ++ exEnd
theorem OverEx.more {l : List Value} (c : Addr) (h : OverEx l) : OverEx (.ref c :: l) := by
  obtain ⟨cs, rfl⟩ := h
  exact ⟨c :: cs, rfl⟩
theorem OverEx.has {l : List Value} (h : OverEx l) (T : String) : l.contains (.type T) = exEnd.contains (.type T) := by
  obtain ⟨cs, rfl⟩ := h
  induction cs with
  | nil => rfl
  | cons c r ih =>
    rw [List.map_cons, List.cons_append, List.contains_cons, ih]
    rfl
theorem OverEx.through {l : List Value} (h : OverEx l) (x : Value) : refuseLoop x "__setattr__" l = pure () := by
  obtain ⟨cs, rfl⟩ := h
  induction cs with
  | nil => exact F.store_Exception.passes x
  | cons c r ih => rw [List.map_cons, List.cons_append, refuseLoop_ref, ih]
theorem OverEx.some {l : List Value} (h : OverEx l) : l.isEmpty = false := by
  obtain ⟨cs, rfl⟩ := h
  cases cs <;> rfl
variable {prog : Program} {w : World} {A : Around} {R : Result → Shared → Prop} {hp : Heap} {g : Array GenState} {d : Drawn} {t : Nat} {os : OsState}
/-- the first store to such an exception -/
theorem first_store {K : W.Frag} {name : Str} {tk : Tok} {v : Value} {x C : Addr} {fv : Array Value} {cd : ClassData} (X : K.In hp)
    (hx : hp.get? x = some { cls := .ref C, data := .fields fv }) (hcd : W.clsIn K C = some cd) (hm : OverEx cd.mro)
    (hh : cd.hasDict = true) (ha : W.findIn K (.ref C) name = some none)
    (hq : ∀ h2 t2 dx, (∀ b o, b ≠ x → hp.get? b = some o → h2.get? b = some o) → hp.objs.size ≤ dx → dx ≠ x → h2.get? x = some { cls := .ref C, dict := some dx, data := .fields fv } →
      h2.Ns1 dx (fun y => if y = name then some v else none) → R (.ok (.ret .none)) ⟨h2, g, d, t2, os⟩) :
    codeAny (model prog w) A (.call (.builtin "object.__setattr__") ⟨[.ref x, .str name tk, v], []⟩) R ⟨hp, g, d, t, os⟩ := by
  have J : W.InstAt hp x { cls := .ref C, data := .fields fv } C none := ⟨hx, rfl, rfl, trivial⟩
  have S1 := F.store_object
  have xs : x ≠ hp.objs.size := Nat.ne_of_lt (Heap.lt_size hx)
  have ho : cd.mro.contains (.type "object") = true := by
    rw [hm.has]
    decide +kernel
  have sb : W.Looks (model prog w) hp (isInstance (.ref x) (.type "object")) true := J.type.andThen (W.looks_mroIn X (by
    unfold W.mroIn
    rw [hcd, Option.bind_some, if_neg (by rw [hm.some]; decide), ho]))
  refine codeAny_call_builtin S1.slot.plain S1.entry ?_
  refine @W.check_slot (model prog w) _ _ ⟨hp, g, d, t, os⟩ "object.__setattr__" "object" "__setattr__" (.ref x) [.str name tk, v] [] _ S1.kind S1.split sb (S1.args (.ref x) (.str name tk) v) ?_
  have L1 : W.Looks (model prog w) hp (mroOf (.ref C)) cd.mro := (W.looks_clsIn X hcd).andThen .now
  have L2 : W.Looks (model prog w) hp (storeTaker? none) none := .now
  have L3 : W.Looks (model prog w) hp (classData C) cd := W.looks_clsIn X hcd
  rw [W.osa_eq, refuse_eq]
  refine wpAny_bind (wpAny_bind (J.type.at (wpAny_bind (L1.at ?_))))
  rw [hm.through]
  refine wpAny_pure (wpAny_bind (J.type.at (wpAny_bind ((W.looks_findIn X ha).at (wpAny_bind (L2.at ?_))))))
  show wpAny _ _ (storeInOwnDict (.ref x) (.ref C) (.str name tk) name v false) _ _ _
  obtain ⟨c1, c2, c3, c4, c5, c6, c7, c8, c9, c10, c11⟩ := cd
  dsimp only at hh
  subst hh
  unfold storeInOwnDict ownDictForStores
  repeat (first | with_reducible refine store_in_new ?_ ?_ | with_reducible refine wpAny_loadPart_at hx ?_ | with_reducible refine L3.at ?_ | wp_step)
  · exact ⟨_, #[], _, (Heap.get?_update_ne _ _ _ _ xs.symm).trans (Heap.get?_push_at rfl rfl), rfl, fun e z => absurd z (by simp), fun _ => rfl⟩
  · intro h2 t2 hn hs
    have hx2 : (hp.push { cls := .type "dict", data := .dict #[] }).get? x = some { cls := .ref C, data := .fields fv } := Heap.get?_push_of_some _ hx
    refine hq h2 t2 hp.objs.size (fun b o hb z => ?_) (Nat.le_refl _) xs.symm ?_ hn
    · exact (hs.2 b (Nat.ne_of_lt (Heap.lt_size z))).trans ((Heap.get?_update_ne _ _ _ _ hb).trans (Heap.get?_push_of_some _ z))
    · exact (hs.2 x xs).trans (Heap.get?_update_self _ hx2 rfl)
end

/-- what the written part says of such a class -/
structure OwnX (K : PySem.W.Frag) (C : Addr) : Prop where
  cls : ∃ nm q N bs bm sn sub ab col dd k0 k1 k2 k3 k5, K.lookup C = some (excClassObj nm q C N bs bm true sn sub ab col dd k0 k1 k2 k3 k5 "Exception.__new__") ∧ OverEx bm
  sa : PySem.W.findIn K (.ref C) "__setattr__" = some (some (.builtin "object.__setattr__"))
  exC : PySem.W.subIn K (.ref C) (.type "BaseException") = some true
  tyC : PySem.W.typeIn K (.ref C) = some (.type "type")
  kC : PySem.W.keepIn K (.ref C) = true
section
variable {X : Cx} {pins : List (Addr × Obj)} {σ : L2.St} {H : Hp} {s : Shared} {a C : Addr} {f : Str} {y : V} {u : Value} {Q : Unit → Shared → Prop} {E : Value → Shared → Prop} {A : Around}
/-- self.f = y, self an exception that is being made and has no attribute as yet -/
theorem one_stored (T : OwnX X.K C) (I : Inv X pins σ H s) (e : H a = some (exo a C none)) (hno : PySem.W.findIn X.K (.ref C) f = some none) (ry : RelV y u)
    (h : ∀ dx s2, H dx = none → dx ≠ a → Inv X pins σ (upd (upd H dx (exd dx [(f, y)])) a (exo a C (some dx))) s2 → Q () s2) : wpAny (model X.prog X.w) A (setAttr (.ref a) f u) Q E s := by
  obtain ⟨nm, q, N, bs, bm, sn, sub, ab, col, dd, k0, k1, k2, k3, k5, hC, hb⟩ := T.cls
  have hc : PySem.W.clsIn X.K C = some { name := nm, bases := bs, mro := .ref C :: bm, ns := N, qualname := q, hasDict := true, slotNames := sn, subclasses := sub, abstract := ab, collection := col, hasDel := false } := by
    unfold PySem.W.clsIn
    rw [hC] <;> rfl
  obtain ⟨t1, ho⟩ := exo_at I.hok e
  obtain ⟨hp, g, d, t, os⟩ := s
  refine PySem.W.set_plain I.kIn (ox := { cls := .ref C, dict := none, data := .fields #[.ref t1, .none, .none, .none, .bool false, .none] }) (od := none) ⟨ho, rfl, rfl, trivial⟩ T.sa ?_
  refine first_store I.kIn ho hc (hb.more C) rfl hno (fun h2 t2 dx k dn dne hx hn => ?_)
  have hnd : H dx = none := I.hok.fresh dn
  have nd : ∀ {b : Addr} {o : Obj}, hp.get? b = some o → b ≠ dx := fun {b o} q => Nat.ne_of_lt (Nat.lt_of_lt_of_le (Heap.lt_size q) dn)
  have na : ∀ {b : Addr}, H b = none → b ≠ a := fun {b} n z => by
    rw [z, e] at n
    cases n
  refine h dx _ hnd dne (I.un (t' := t2) (Un.mk (fun b o q n _ _ => k b o (na n) q) (fun b o q n _ _ => ⟨o.slots, k b o (na n) q⟩) (fun b o q n _ => ?_) (fun b o q _ => ?_) (fun b xs q => ?_) (fun b o v q => ?_) fun b ps q => ⟨#[], ?_⟩) fun b o q => ?_)
  · rw [upd_ne (na n), upd_ne (nd q)]; exact n
  · by_cases hb : b = a
    · exact ⟨_, hb ▸ hx⟩
    · exact ⟨o, k b o hb q⟩
  · rw [upd_ne (at_ne e q exo_tup), upd_ne (ne_of_none q hnd)]; exact q
  · rw [upd_ne (at_ne e q exo_frz), upd_ne (ne_of_none q hnd)]; exact q
  · rw [upd_ne (at_ne e q exo_tbl), upd_ne (ne_of_none q hnd), q]; simp
  · by_cases hb : b = a
    · subst hb
      cases upd_same.symm.trans q
      exact exo_ok hx
    · rw [upd_ne hb] at q
      by_cases hd : b = dx
      · subst hd
        cases upd_same.symm.trans q
        exact exd_ok hn (relO_put (fs := []) ry fun g => True.intro)
      · rw [upd_ne hd] at q
        refine (I.hok b o q).stay (fun c v hc z => k c v ?_ z) (fun c hc => ?_) (fun c xs hc => ?_)
        · rcases hc with hc | hc
          · exact hc ▸ hb
          · exact at_ne e hc exo_own
        · rw [upd_ne (at_ne e hc exo_own), upd_ne (ne_of_none hc hnd)]; exact hc
        · rw [upd_ne (at_ne e hc exo_tup), upd_ne (ne_of_none hc hnd)]; exact hc
end
/-- self.f = e in the __init__ of such a class -/
def tOne (K : PySem.W.Frag) (f : Str) (to te : TE) : TS := fun D σ H => te σ H fun y H1 => to σ H1 fun x H2 => ∃ a C : Addr, x = .ref a ∧ OwnX K C ∧ PySem.W.findIn K (.ref C) f = some none ∧ H2 a = some (exo a C none) ∧
  ∀ dx, H2 dx = none → dx ≠ a → D.nx σ (upd (upd H2 dx (exd dx [(f, y)])) a (exo a C (some dx)))
theorem ps_one {X : Cx} {o e : Expr} {to te : TE} {f : Str} {p2 pos : Pos} (ho : PE X o to) (he : PE X e te) (hs : swapsWith e (some (.Attribute o f p2)) pos.line X.env = pure false := by rfl) : PS X (.Assign [.Attribute o f p2] e pos) (tOne X.K f to te) := by
  refine ⟨fun pins s σ H D I h => plainObj_wpAny_Assign_Attribute (thn (he.run pins s σ H _ I h) ?_) hs⟩
  rintro v s1 ⟨y, H1, I1, r1, q1⟩
  refine thn (ho.run pins s1 σ H1 _ I1 q1) ?_
  rintro u s2 ⟨x, H2, I2, r2, a, C, rfl, T, hno, ea, q⟩
  obtain rfl : u = Value.ref a := r2
  exact one_stored T I2 ea hno r1 fun dx s3 n ne J => ⟨σ, _, J, q dx n ne⟩
/-- C(e), C's own __init__ keeping the value as f -/
def tMk1 (C : Addr) (f : Str) (ta : TA) : L2.St → Hp → XK → Prop := fun σ H Q => ta σ H fun vs H1 => ∃ v, vs = [v] ∧ ∀ d, H1 d = none → Q (.ref C) (some d) (upd H1 d (.xd [(f, v)]))
/-- the __init__ of such a class keeps its value -/
def spKeep (C : Addr) (f : Str) : Sp := fun vs H Q _ => ∃ (a : Addr) (v : V), vs = [.ref a, v] ∧ H a = some (exo a C none) ∧ ∀ dx, H dx = none → dx ≠ a → Q .non (upd (upd H dx (exd dx [(f, v)])) a (exo a C (some dx)))
theorem pmk_one {X : Cx} {CX : CXT} {x f : Str} {p pos : Pos} {e : Expr} {ta : TA} {C fI : Addr} {k : Nat} {fd : FuncData} {ps : List Str} (T : OwnX X.K C) (iC : PySem.W.findIn X.K (.ref C) "__init__" = some (some (.ref fI)))
    (tI : PySem.W.typeIn X.K (.ref fI) = some (.type "function")) (F1 : FnOk X.prog X.w X.K X.mg X.base CX k fI fd ps (spKeep C f)) (hr : Room (k + 1) X.A) (hb : Binds X.K fd ps []) (hx : Passes CX X (fun _ _ _ => False))
    (hg : Gl X x) (hm : X.mg x = some (.ref C)) (ha : PA X [e] ta) (hdb : (x == ("__debug__" : Str)) = false := by decide)
    (he : starEach (e :: []) X.env = (false, eval e X.env) :: starEach [] X.env := by rfl) (hpl : (backTo pos (starEach [] X.env)).any (·.1) = false := by rfl) :
    PMk X (.Call (.Name x p) [e] [] pos) (tMk1 C f ta) := by
  intro pins s σ H Q I h
  obtain ⟨nm, q, N, bs, bm, sn, sub, ab, col, dd, k0, k1, k2, k3, k5, hC, hbm⟩ := T.cls
  refine wpAny_Call_Name_kw (ld_glob I hg hm ?_ hdb)
  refine PySem.W.callWith_K (h₀ := X.base) I.ok.mod.kin T.kC (thn (ha.run pos pins s σ H _ I h) ?_) he hpl
  rintro us s1 ⟨vs, H1, I1, r1, v, rfl, q1⟩
  refine ⟨I1.kIn, ?_⟩
  show wpAny _ _ (call (.ref C) us) _ _ _
  obtain ⟨hp, g, dr, tk, os⟩ := s1
  have le := Nat.le_succ hp.objs.size
  have hn : H1 (hp.objs.size + 1) = none := I1.hok.fresh le
  have kk : ∀ b o, hp.get? b = some o → ((hp.push (PySem.W.kdv_tup us)).push (PySem.HandSPX.excO C hp.objs.size)).get? b = some o := fun b o z => Heap.get?_push_of_some _ (Heap.get?_push_of_some _ z)
  have at1 : ((hp.push (PySem.W.kdv_tup us)).push (PySem.HandSPX.excO C hp.objs.size)).get? (hp.objs.size + 1) = some (PySem.HandSPX.excO C hp.objs.size) := by heap_get
  have I2 := I1.laid (t' := tk) (a := hp.objs.size + 1) (o := exo (hp.objs.size + 1) C none) (h' := (hp.push (PySem.W.kdv_tup us)).push (PySem.HandSPX.excO C hp.objs.size)) kk le (exo_ok at1)
  have hq : spKeep C f [.ref (hp.objs.size + 1), v] (upd H1 (hp.objs.size + 1) (exo (hp.objs.size + 1) C none)) (fun z H2 => z = .non ∧ ∃ (d : Addr) (fs : List (Str × V)), H2 (hp.objs.size + 1) = some (exo (hp.objs.size + 1) C (some d)) ∧ H2 d = some (exd d fs) ∧ H1 d = none ∧
      Q (.ref C) (some d) (upd (del H2 (hp.objs.size + 1)) d (.xd fs))) (fun _ _ _ => False) := by
    refine ⟨_, v, rfl, upd_same, fun dx n ne => ⟨rfl, dx, [(f, v)], upd_same, ?_, ?_, ?_⟩⟩
    · rw [upd_ne ne, upd_same]
    · rw [upd_ne ne] at n
      exact n
    · have n1 : H1 dx = none := by
        rw [upd_ne ne] at n
        exact n
      have z := q1 dx n1
      have e2 : upd (del (upd (upd (upd H1 (hp.objs.size + 1) (exo (hp.objs.size + 1) C none)) dx (exd dx [(f, v)])) (hp.objs.size + 1) (exo (hp.objs.size + 1) C (some dx))) (hp.objs.size + 1)) dx (.xd [(f, v)]) = upd H1 dx (.xd [(f, v)]) := by
        funext b
        by_cases hbd : b = dx
        · rw [hbd, upd_same, upd_same]
        · rw [upd_ne hbd, upd_ne hbd]
          by_cases hba : b = hp.objs.size + 1
          · rw [hba, del_same, hn]
          · rw [del_ne hba, upd_ne hba, upd_ne hbd, upd_ne hba]
      rw [e2]
      exact z
  have r2 : Vals [V.ref (hp.objs.size + 1), v] (Value.ref (hp.objs.size + 1) :: (us ++ [])) := .cons rfl (by rw [List.append_nil]; exact r1)
  have hl : (Value.ref (hp.objs.size + 1) :: us ++ []).length = ps.length := by
    have z := r2.length
    rw [F1.len _ _ _ _ hq] at z
    exact z.symm
  have hus : us.length ≤ sizeLine := by
    rw [← Paired.length r1, sizeLine_eq]
    exact (by decide : 1 ≤ 16777216)
  refine wpAny_call (PySem.HandSPX.call_own PySem.F.excBase_Exception hbm.has (I1.kIn _ _ hC) (PySem.W.looks_findIn I1.kIn iC) (fun z => PySem.W.bind_fn I1.kIn z tI) hus ?_)
  refine codeAny_mono (F1.run _ X.stack _ _ ⟨Value.ref (hp.objs.size + 1) :: us, []⟩ _ _ _ (fun _ _ _ => False) (hr.make C us []) (I2.env0.make C us []) (hb _ (Value.ref (hp.objs.size + 1) :: us) I2.kIn hl) r2 hq) ?_
  intro r s2 hq2
  cases r with
  | error er => exact hx pins σ _ _ er s2 I2 hq2
  | ok fl =>
    cases fl with
    | next => exact False.elim hq2
    | brk => exact False.elim hq2
    | cont => exact False.elim hq2
    | ret u =>
      obtain ⟨z, H2, os2, bare2, un2, hok2, rv, rfl, d, fs, ea, ed, hd1, q2⟩ := hq2
      obtain ⟨h2, g2, d2, t2, os3⟩ := s2
      exact ⟨rv, mk_end (raises_own T.exC T.tyC) I1 le kk un2 hok2 os2 bare2 ea ed hd1 q2⟩
end SG

/-! Data at any depth, and the empty dict: its kind, lengths, items. -/
namespace SG
open PySem PySem.Spec PyProof.Rows L2
/-- data, or the empty dict -/
def Dq (K : PySem.W.Frag) (H : Hp) (x : V) (d : PyData) : Prop := Dp K H x d ∨ (d = .dict [] ∧ ∃ a, x = .ref a ∧ H a = some (.dK []))
def kindOf : PyData → String
  | .none => "NoneType"
  | .bool _ => "bool"
  | .int _ => "int"
  | .str _ => "str"
  | .list _ => "list"
  | .tuple _ => "tuple"
  | .dict _ => "dict"
section
variable {K : PySem.W.Frag} {H H2 : Hp} {x : V} {d : PyData}
theorem dp_ty (h : Dp K H x d) : TyX K H x (.type (kindOf d)) := by
  cases h with
  | non => exact .base .non
  | bl b => exact .base (.bl b)
  | int i => exact .base (.int i)
  | str s => exact .base (.str s)
  | lst s _ =>
    rcases s with (s | ⟨o, s⟩) | ⟨o, vs, n, s, c, _⟩
    · exact .base (.lst s)
    · exact .base (.frz s)
    · exact .kList s c
  | tup s _ =>
    rcases s with (s | ⟨o, s⟩) | ⟨o, vs, n, s, c, _⟩
    · exact .base (.tup s)
    · exact .fTuple s
    · exact .kTuple s c
theorem dq_ty (h : Dq K H x d) : TyX K H x (.type (kindOf d)) := by
  rcases h with h | ⟨rfl, a, rfl, h⟩
  · exact dp_ty h
  · exact .base (.dK h)
mutual
theorem dp_same (s : Same H H2) : ∀ {x : V} {d : PyData}, Dp K H x d → Dp K H2 x d
  | _, _, .non => .non
  | _, _, .bl b => .bl b
  | _, _, .int i => .int i
  | _, _, .str t => .str t
  | _, _, .lst q a => .lst (s.seq q) (dpA_same s a)
  | _, _, .tup q a => .tup (sameT s q) (dpA_same s a)
theorem dpA_same (s : Same H H2) : ∀ {xs : List V} {ds : List PyData}, DpAll K H xs ds → DpAll K H2 xs ds
  | _, _, .nil => .nil
  | _, _, .cons a b => .cons (dp_same s a) (dpA_same s b)
end
theorem dq_same (s : Same H H2) (h : Dq K H x d) : Dq K H2 x d := by
  rcases h with h | ⟨e, a, e2, h⟩
  · exact .inl (dp_same s h)
  · exact .inr ⟨e, a, e2, s _ _ h⟩
theorem dpA_len : ∀ {xs : List V} {ds : List PyData}, DpAll K H xs ds → xs.length = ds.length
  | _, _, .nil => rfl
  | _, _, .cons _ b => congrArg (· + 1) (dpA_len b)
theorem dpA_get : ∀ {xs : List V} {ds : List PyData} {i : Nat} {x : V}, DpAll K H xs ds → xs[i]? = some x → ∃ d, ds[i]? = some d ∧ Dp K H x d
  | _, _, _, _, .nil, e => by simp at e
  | _, _, 0, _, .cons a b, e => by
    simp at e
    subst e
    exact ⟨_, rfl, a⟩
  | _, _, i + 1, x, .cons a b, e => by
    obtain ⟨d, h1, h2⟩ := dpA_get (i := i) (x := x) b (by simpa using e)
    exact ⟨d, by simpa using h1, h2⟩
theorem dpA_app : ∀ {xs ys : List V} {ds es : List PyData}, DpAll K H xs ds → DpAll K H ys es → DpAll K H (xs ++ ys) (ds ++ es)
  | _, _, _, _, .nil, h => h
  | _, _, _, _, .cons a b, h => .cons a (dpA_app b h)
/-- what is no tuple has no tuple's kind -/
theorem dq_tuple {ds : List PyData} (h : Dq K H x (.tuple ds)) : ∃ a xs, x = .ref a ∧ SqT K H a xs ∧ DpAll K H xs ds := by
  rcases h with h | ⟨e, _⟩
  · cases h with
    | tup q a => exact ⟨_, _, rfl, q, a⟩
  · cases e
def isTup : PyData → Bool
  | .tuple _ => true
  | _ => false
def isInt : PyData → Bool
  | .int _ => true
  | _ => false
theorem isi_tuple (h : Dq K H x d) : PySem.W.kitOne K (.type (kindOf d)) (.type "tuple") = some (isTup d) := by
  cases d with
  | none => exact kit_ty (show kitB "NoneType" "tuple" = some false by decide +kernel)
  | bool _ => exact kit_ty (show kitB "bool" "tuple" = some false by decide +kernel)
  | int _ => exact kit_ty (show kitB "int" "tuple" = some false by decide +kernel)
  | str _ => exact kit_ty (show kitB "str" "tuple" = some false by decide +kernel)
  | list _ => exact kit_ty (show kitB "list" "tuple" = some false by decide +kernel)
  | tuple _ => exact kit_ty (show kitB "tuple" "tuple" = some true by decide +kernel)
  | dict _ => exact kit_ty (show kitB "dict" "tuple" = some false by decide +kernel)
def isIntLike : PyData → Bool
  | .int _ => true
  | .bool _ => true
  | _ => false
def isBool : PyData → Bool
  | .bool _ => true
  | _ => false
theorem isi_int (h : Dq K H x d) : PySem.W.kitOne K (.type (kindOf d)) (.type "int") = some (isIntLike d) := by
  cases d with
  | none => exact kit_ty (show kitB "NoneType" "int" = some false by decide +kernel)
  | bool _ => exact kit_ty (show kitB "bool" "int" = some true by decide +kernel)
  | int _ => exact kit_ty (show kitB "int" "int" = some true by decide +kernel)
  | str _ => exact kit_ty (show kitB "str" "int" = some false by decide +kernel)
  | list _ => exact kit_ty (show kitB "list" "int" = some false by decide +kernel)
  | tuple _ => exact kit_ty (show kitB "tuple" "int" = some false by decide +kernel)
  | dict _ => exact kit_ty (show kitB "dict" "int" = some false by decide +kernel)
theorem isi_bool (h : Dq K H x d) : PySem.W.kitOne K (.type (kindOf d)) (.type "bool") = some (isBool d) := by
  cases d with
  | none => exact kit_ty (show kitB "NoneType" "bool" = some false by decide +kernel)
  | bool _ => exact kit_ty (show kitB "bool" "bool" = some true by decide +kernel)
  | int _ => exact kit_ty (show kitB "int" "bool" = some false by decide +kernel)
  | str _ => exact kit_ty (show kitB "str" "bool" = some false by decide +kernel)
  | list _ => exact kit_ty (show kitB "list" "bool" = some false by decide +kernel)
  | tuple _ => exact kit_ty (show kitB "tuple" "bool" = some false by decide +kernel)
  | dict _ => exact kit_ty (show kitB "dict" "bool" = some false by decide +kernel)
end
/-! ### two tuples put together, a slice of a tuple: whatever object it is -/
theorem cat3 {K : PySem.W.Frag} {C : V → Hp → Prop} {H : Hp} {a b : Addr} {xs ys : List V} (hA : SqT K H a xs) (hB : SqT K H b ys) (h : ∀ (x : Addr) (H3 : Hp), Same H H3 → SqT K H3 x (xs ++ ys) → C (.ref x) H3) :
    (xs = [] → C (.ref b) H) ∧ (xs ≠ [] → ys = [] → C (.ref a) H) ∧ (xs ≠ [] → ys ≠ [] → ∀ p, H p = none → C (.ref p) (upd H p (.tup (xs ++ ys)))) := by
  refine ⟨fun e => ?_, fun _ e => ?_, fun _ _ p np => h p _ (same_new np) (.inl (.inl upd_same))⟩
  · subst e
    exact h b H (Same.refl H) hB
  · subst e
    refine h a H (Same.refl H) ?_
    rw [List.append_nil]
    exact hA
def rCatU (K : PySem.W.Frag) : R2 := fun x y H Q => ∃ a b xs ys, x = .ref a ∧ y = .ref b ∧ SqT K H a xs ∧ SqT K H b ys ∧ xs.length + ys.length ≤ sizeLine ∧ ∀ (z : Addr) (H3 : Hp), Same H H3 → SqT K H3 z (xs ++ ys) → Q (.ref z) H3
theorem k_catU {X : Cx} {K : PySem.W.Frag} (e : X.K = K := by rfl) : OpR X (binaryOp .Add) (rCatU K) := by
  subst e
  intro pins s σ H x y v u Q I rx ry h
  obtain ⟨a, b, xs, ys, rfl, rfl, hA, hB, hl, q⟩ := h
  exact op_catA pins s σ H _ _ v u Q I rx ry ⟨a, b, xs, ys, rfl, rfl, hA, hB, hl, cat3 hA hB q⟩
def rSlU (K : PySem.W.Frag) : V → Option Int → Option Int → Hp → VK → Prop := fun x lo hi H Q => ∃ a xs, x = .ref a ∧ SqT K H a xs ∧ ∀ (z : Addr) (H3 : Hp), Same H H3 → SqT K H3 z (cutV xs lo hi) → Q (.ref z) H3
theorem k_slU {X : Cx} {K : PySem.W.Frag} (e : X.K = K := by rfl) : SlR X (rSlU K) := by
  subst e
  intro pins s σ H x v vl vu lo hi sl Q I rx hs pl pu h
  obtain ⟨a, xs, rfl, hA, q⟩ := h
  refine sl_tupA pins s σ H _ v vl vu lo hi sl Q I rx hs pl pu ⟨a, xs, rfl, hA, fun z => q a H (Same.refl H) ?_, fun _ p np => q p _ (same_new np) (.inl (.inl upd_same))⟩
  unfold cutV
  rw [z.1, z.2, Nat.sub_zero, List.drop_zero, List.take_length]
  exact hA
def isRuleD : PyData → Bool
  | .tuple [.tuple xs, .tuple ys] => xs.length == ys.length && (xs ++ ys).all isInt
  | _ => false
end SG

/-! Data that can be told and compared. -/
namespace SG
open PySem PySem.Spec PyProof.Rows L2
structure OkD (d : PyData) : Prop where
  lay : d.canLay0 = true
  dep : d.depth ≤ 50
  tell : tellable d = true
  short : d.leavesShort 4302 = true
  bulk : d.bulk ≤ 3000
structure OkA (ds : List PyData) : Prop where
  lay : PyData.canLayAll0 ds = true
  dep : PyData.depthAll ds ≤ 49
  tell : tellableAll ds = true
  short : PyData.leavesShortAll 4302 ds = true
theorem OkD.shown {d : PyData} (h : OkD d) : d.shown.length ≤ sizeLine := by
  have z := PyData.shown_le_bulk 4302 (by decide) d h.short
  have z2 : (4302 + 2) * d.bulk ≤ 4304 * 3000 := Nat.mul_le_mul (Nat.le_refl _) h.bulk
  rw [sizeLine_eq]
  omega
theorem OkA.tuple {ds : List PyData} (h : OkA ds) (b : PyData.bulkAll ds ≤ 3000) : OkD (.tuple ds) :=
  ⟨by simpa only [PyData.canLay0] using h.lay, by simp only [PyData.depth]; have := h.dep; omega, by simpa only [tellable] using h.tell, by simpa only [PyData.leavesShort] using h.short, by simpa only [PyData.bulk] using b⟩
theorem OkA.list {ds : List PyData} (h : OkA ds) (b : PyData.bulkAll ds ≤ 3000) : OkD (.list ds) :=
  ⟨by simpa only [PyData.canLay0] using h.lay, by simp only [PyData.depth]; have := h.dep; omega, by simpa only [tellable] using h.tell, by simpa only [PyData.leavesShort] using h.short, by simpa only [PyData.bulk] using b⟩
theorem OkA.nil : OkA [] := ⟨by simp [PyData.canLayAll0], by simp [PyData.depthAll], by simp [tellableAll], by simp [PyData.leavesShortAll]⟩
theorem OkA.cons {d : PyData} {ds : List PyData} (h : OkD d) (hd : d.depth ≤ 49) (t : OkA ds) : OkA (d :: ds) :=
  ⟨by simp only [PyData.canLayAll0, h.lay, t.lay, Bool.and_self], by simp only [PyData.depthAll]; have := t.dep; omega, by simp only [tellableAll, h.tell, t.tell, Bool.and_self], by simp only [PyData.leavesShortAll, h.short, t.short, Bool.and_self]⟩
theorem OkD.int {i : Int} (h : i.natAbs < 10 ^ 4300) : OkD (.int i) := by
  refine ⟨by simp only [PyData.canLay0], by simp only [PyData.depth]; omega, ?_, ?_, by simp only [PyData.bulk]; omega⟩
  · simp only [tellable]
    exact decide_eq_true h
  · have e := int_text_length_le10 (k := 4300) (by decide) h
    simp only [PyData.leavesShort]
    refine decide_eq_true ?_
    show (Str.ofString (toString i)).length ≤ 4302
    rw [PySem.ofString_length]
    omega
theorem okA_ints : ∀ {ns : List Int}, (∀ n ∈ ns, n.natAbs < 10 ^ 4300) → OkA (dI ns)
  | [], _ => .nil
  | n :: ns, h => .cons (.int (h n List.mem_cons_self)) (by simp only [PyData.depth]; omega) (okA_ints fun m hm => h m (List.mem_cons_of_mem _ hm))
theorem bulk_ints : ∀ ns : List Int, PyData.bulkAll (dI ns) = ns.length
  | [] => by simp [dI, PyData.bulkAll]
  | n :: ns => by
    have ih := bulk_ints ns
    show PyData.bulkAll (PyData.int n :: dI ns) = ns.length + 1
    simp only [PyData.bulkAll, PyData.bulk, ih]
    omega
end SG
namespace SG
open PySem PySem.Spec PyProof.Rows L2
theorem canLay_mem : ∀ {ds : List PyData} {d : PyData}, PyData.canLayAll0 ds = true → d ∈ ds → d.canLay0 = true
  | x :: xs, d, h, m => by
    have h2 : x.canLay0 = true ∧ PyData.canLayAll0 xs = true := by simpa only [PyData.canLayAll0, Bool.and_eq_true] using h
    rcases List.mem_cons.mp m with e | m
    · rw [e]; exact h2.1
    · exact canLay_mem h2.2 m
theorem canLay_sub : ∀ {es ds : List PyData}, PyData.canLayAll0 ds = true → (∀ e ∈ es, e ∈ ds) → PyData.canLayAll0 es = true
  | [], _, _, _ => by simp only [PyData.canLayAll0]
  | e :: es, ds, h, s => by
    simp only [PyData.canLayAll0, canLay_mem h (s e List.mem_cons_self), canLay_sub (es := es) h fun x m => s x (List.mem_cons_of_mem _ m), Bool.and_self]
theorem depth_mem : ∀ {ds : List PyData} {d : PyData}, d ∈ ds → d.depth ≤ PyData.depthAll ds
  | x :: xs, d, m => by
    simp only [PyData.depthAll]
    rcases List.mem_cons.mp m with e | m
    · rw [e]; exact Nat.le_max_left _ _
    · exact Nat.le_trans (depth_mem m) (Nat.le_max_right _ _)
theorem depth_sub : ∀ {es ds : List PyData}, (∀ e ∈ es, e ∈ ds) → PyData.depthAll es ≤ PyData.depthAll ds
  | [], _, _ => by simp only [PyData.depthAll]; omega
  | e :: es, ds, s => by
    simp only [PyData.depthAll]
    exact Nat.max_le.mpr ⟨depth_mem (s e List.mem_cons_self), depth_sub fun x m => s x (List.mem_cons_of_mem _ m)⟩
theorem shaped_sub {es ds : List PyData} (h1 : PyData.canLayAll0 ds = true) (h2 : PyData.depthAll ds ≤ 60) (s : ∀ e ∈ es, e ∈ ds) : SeqAt.shaped (.list es) = true := by
  have a := canLay_sub h1 s
  have b := depth_sub s
  simp only [SeqAt.shaped, PyData.canLay0, PyData.depth, a, Bool.true_and]
  exact decide_eq_true (by omega)
theorem eqv_nil : ∀ ds : List PyData, PyData.eqv (.list ds) (.list []) = ds.isEmpty
  | [] => by simp [PyData.eqv, PyData.eqvAll]
  | d :: ds => by simp [PyData.eqv, PyData.eqvAll]
/-- a comprehension over a tuple of data that keeps those that p takes -/
theorem lc_tupF {K : PySem.W.Frag} {a D : Addr} {xs : List V} {ds : List PyData} {tt : TT} {s : Nat} {σ : L2.St} {H1 : Hp} {Qd : Hp → Prop} (p : PyData → Bool) (hn : xs.length ≤ 1000) (hD : H1 D = none) (hS : SqT K H1 a xs) (hX : DpAll K H1 xs ds) (hs : s < σ.length)
    (turn : ∀ (x : V) (d : PyData) (H2 : Hp), d ∈ ds → Dp K H2 x d → ∀ R : Bool → Hp → Prop, R (p d) H2 → tt ((wipe σ [s]).set s (some x)) H2 R)
    (done : ∀ (ys : List V) (H2 : Hp), Same H1 H2 → H2 D = some (.lst ys) → DpAll K H1 ys (ds.filter p) → Qd H2) :
    ∃ W : Nat → Nat → Hp → Prop, (∃ m, W 0 m (upd H1 D (.lst []))) ∧ ∀ i m H, W i m H →
      ((Itt K a).stop i H ∧ Qd H) ∨ ((Itt K a).go i H ∧ ∃ Nx : Hp → Prop, (∀ H2, Nx H2 → ∃ m2, m2 < m ∧ W (i + 1) m2 H2) ∧ ∀ x H2, (Itt K a).yld i H x H2 → gName s x (wipe σ [s]) H2 fun σ2 H3 => wipe σ2 [s] = wipe σ [s] ∧ tt σ2 H3 fun b H4 =>
        if b = true then tVar s σ2 H4 fun y H5 => ∃ acc, H5 D = some (.lst acc) ∧ acc.length < sizeLine ∧ Nx (upd H5 D (.lst (acc ++ [y]))) else Nx H4) := by
  refine lc_tup (xs := xs) (fun i H2 => Same H1 H2 ∧ ∃ ys, H2 D = some (.lst ys) ∧ DpAll K H1 ys ((ds.take i).filter p) ∧ ys.length ≤ i) ⟨same_new hD, [], upd_same, by simpa using DpAll.nil, Nat.le_refl _⟩ (fun i H2 _ q => sameT q.1 hS) ?_ ?_
  · rintro i x H2 hx ⟨sm, ys, h2, hY, hl⟩
    obtain ⟨d, h1, h3⟩ := dpA_get hX hx
    have hi : i < xs.length := (List.getElem?_eq_some_iff.mp hx).1
    have e1 : (ds.take (i + 1)).filter p = (ds.take i).filter p ++ (if p d = true then [d] else []) := by
      rw [List.take_add_one, h1]
      show ((ds.take i) ++ [d]).filter p = _
      rw [List.filter_append]
      congr 1
      by_cases e : p d = true <;> simp [e]
    refine ⟨wipe1 _ _ _, ?_⟩
    refine turn x d H2 (List.mem_of_getElem? h1) (dp_same sm h3) _ ?_
    by_cases e : p d = true
    · refine ifT e ⟨x, ?_, ys, h2, small1000 (by omega), same_upd_of sm hD, ys ++ [x], upd_same, ?_, by rw [List.length_append]; simpa using hl⟩
      · rw [List.getElem?_set_self (by rw [wipe_length]; exact hs)]
      · rw [e1, if_pos e]
        exact dpA_app hY (.cons h3 .nil)
    · refine ifF (by simpa using e) ⟨sm, ys, h2, ?_, by omega⟩
      rw [e1, if_neg e, List.append_nil]
      exact hY
  · rintro H2 ⟨sm, ys, h2, hY, hl⟩
    refine done ys H2 sm h2 ?_
    rw [dpA_len hX, List.take_length] at hY
    exact hY
end SG

/-! Calls by keywords alone. -/
namespace SG
open PySem PySem.Spec PyProof.Rows L2
def kwOne {α : Type} : List α → List α → List α
  | [], [a] => [a]
  | _, _ => []
/-- two keywords, in the other order -/
def kwTurn {α : Type} : List α → List α → List α
  | [], [b, a] => [a, b]
  | _, _ => []
theorem kwOne_rel {vs : List V} {us : List Value} {zs : List V} {ws : List Value} (a : Vals vs us) (b : Vals zs ws) : Vals (kwOne vs zs) (kwOne us ws) := by
  cases a with
  | nil =>
    cases b with
    | nil => exact .nil
    | cons r t =>
      cases t with
      | nil => exact .cons r .nil
      | cons _ _ => exact .nil
  | cons _ _ => exact .nil
theorem kwTurn_rel {vs : List V} {us : List Value} {zs : List V} {ws : List Value} (a : Vals vs us) (b : Vals zs ws) : Vals (kwTurn vs zs) (kwTurn us ws) := by
  cases a with
  | nil =>
    cases b with
    | nil => exact .nil
    | cons r t =>
      cases t with
      | nil => exact .nil
      | cons r2 t2 =>
        cases t2 with
        | nil => exact .cons r2 (.cons r .nil)
        | cons _ _ => exact .nil
  | cons _ _ => exact .nil
theorem kb_of {K : PySem.W.Frag} {x qn : Str} {st : Stmt} {f : Addr} {fd : FuncData} {ps ks : List Str} {g : List Value → List Value → List Value} {gV : List V → List V → List V} (F : Fun K x qn st f fd)
    (h : ∀ (kV doc pm : Value) (an : Option Addr) (cdv ct : Value) (us ws : List Value), (g us ws).length = ps.length → bindArgs (PySem.W.fnOf x qn (defArgs st) (defBody st) (defScope st) .none kV doc pm an cdv ct) ⟨us, ks.zip ws⟩ = pure (ps.zip (g us ws)))
    (rel : ∀ {vs : List V} {us : List Value} {zs : List V} {ws : List Value}, Vals vs us → Vals zs ws → Vals (gV vs zs) (g us ws)) : KBinds K fd ps ks g gV := by
  obtain ⟨oc, od, kV, doc, pm, an, cdv, ct, osl, rfl, lk, hcd⟩ := F.ex
  exact ⟨fun s us ws _ hl => .of_eq (h kV doc pm an cdv ct us ws hl), rel⟩
end SG

/-! Instances of own classes: made where their __init__ may raise; == and len by own methods; isinstance of a caught exception that has attributes. -/
namespace SG
open PySem PySem.Spec PyProof.Rows L2
/-- isinstance(e, c), e the exception that the suite holds, its dict at d -/
def rIsX (K : PySem.W.Frag) (D a : Addr) (cls : Value) (d : Option Addr) : List V → Hp → VK → Prop := fun xs H Q => ∃ (c : V) (cv : Value) (b : Bool) (dd : Addr) (fs : List (Str × V)), xs = [.ref a, c] ∧ cls = .ref D ∧ (∀ u, RelV c u → u = cv) ∧ PySem.W.kitOne K (.ref D) cv = some b ∧ d = some dd ∧ H dd = some (.xd fs) ∧ Q (.bl b) H
theorem call_isX {X : Cx} {K : PySem.W.Frag} {a D : Addr} {oe : Obj} {cls : Value} {d : Option Addr} {pn : List (Addr × Obj)} (C : ExcC X.K D) (hc : (PySem.W.clsIn X.K D).isSome = true) (hz : Zc cls d oe) (hf : ∃ vs, oe.data = .fields vs) (eK : X.K = K := by rfl) :
    CallR (X.suite a ((a, oe) :: pn)) (.builtin "isinstance") (rIsX K D a cls d) := by
  subst eK
  intro pins s σ H xs us Q I r h
  obtain ⟨c, cv, b, dd, fs, rfl, rfl, hcv, e, rfl, hd, q⟩ := h
  cases r with
  | cons rx rr =>
    cases rr with
    | cons rt rr =>
      cases rr
      cases rx
      obtain rfl := hcv _ rt
      obtain ⟨hget, _⟩ := I.pin (a, oe) (List.mem_append.mpr (.inl List.mem_cons_self))
      obtain ⟨vs, hv⟩ := hf
      have hx : ObjOk X.prog X.w H s.heap dd (.xd fs) := I.hok dd _ hd
      obtain ⟨mA, hns, hr⟩ := hx
      obtain ⟨od, ho, hl⟩ := lookIn_ns hns
      have J : PySem.W.InstAt s.heap a oe D (some od) := ⟨hget, hz.1, by unfold PySem.W.notCls; rw [hv] <;> rfl, by rw [hz.2]; exact ho⟩
      exact PySem.W.kia_one (PySem.W.kitx_exc hc C.hg C.hk C.hs C.ha C.hn C.ht C.hm) I.kIn J e (fun z => nomatch z) fun tk => ⟨.bl b, H, I.kept (t' := tk) fun _ _ z => z, rfl, q⟩

section
variable {X : Cx} {cx : CXT} {k : Nat} {f C : Addr} {fd : FuncData} {ps ks : List Str} {sp : Sp} {E : L2.St → XK} {x : Str} {p pos : Pos} {e : Expr} {es : List Expr} {kws : List Keyword} {t tk : TA} {g : List Value → List Value → List Value} {gV : List V → List V → List V}
theorem run_makeS {pins : List (Addr × Obj)} {σ : L2.St} {H : Hp} {s : Shared} {Q : VK} {us ws : List Value} {vs zs : List V} {kw : List (Str × Value)} (M : Mk X.K C f) (F : FnOk X.prog X.w X.K X.mg X.base cx k f fd ps sp) (hr : Room (k + 1) X.A)
    (hb : ∀ (st : Shared) (y : Addr), X.K.In st.heap → (g (.ref y :: us) ws).length = ps.length → BindsTo st fd ⟨.ref y :: us, kw⟩ (ps.zip (g (.ref y :: us) ws))) (rl : ∀ y : Addr, Vals (gV (.ref y :: vs) zs) (g (.ref y :: us) ws)) (hx : PassesAt cx X σ (E σ)) (I : Inv X pins σ H s)
    (h : ∀ y dx, H y = none → H dx = none → dx ≠ y → sp (gV (.ref y :: vs) zs) (upd (upd H dx (.own y)) y (.ins C dx [])) (fun v H2 => v = .non ∧ Q (.ref y) H2) (E σ)) :
    wpAny (model X.prog X.w) X.A (call (.ref C) us kw) (EP X pins σ Q) X.xe s := by
  have hq := h (s.heap.objs.size + 1) s.heap.objs.size (I.hok.fresh (Nat.le_succ _)) (I.hok.fresh (Nat.le_refl _)) (Nat.ne_of_lt (Nat.lt_succ_self _))
  have I2 := Inv.made (C := C) I
  have r2 := rl (s.heap.objs.size + 1)
  have hl := r2.length
  rw [F.len _ _ _ _ hq] at hl
  refine wpAny_call (make_map (f := f) I.kIn M.makes M.init (beq_iff_eq.mp M.fn) ?_)
  refine codeAny_mono (F.run _ X.stack _ _ ⟨Value.ref (s.heap.objs.size + 1) :: us, kw⟩ _ _ _ (E σ) (hr.make C us kw) (I2.env0.make C us kw) (hb _ _ I2.kIn hl.symm) r2 hq) ?_
  intro r s2 hq2
  cases r with
  | error er => exact hx pins _ _ er s2 I2 hq2
  | ok fl =>
    cases fl with
    | next => exact False.elim hq2
    | brk => exact False.elim hq2
    | cont => exact False.elim hq2
    | ret u =>
      obtain ⟨v, H3, I3, rv, rfl, q3⟩ := I2.after hq2
      exact ⟨rv, ⟨V.ref (s.heap.objs.size + 1), H3, I3, rfl, q3⟩⟩
/-- C(e, ..), what its __init__ lets out wished for at the slots -/
def tMakeS (C : Addr) (sp : Sp) (E : L2.St → XK) (t : TA) : TE := fun σ H Q => t σ H fun vs H1 => ∀ y dx, H1 y = none → H1 dx = none → dx ≠ y → sp (.ref y :: vs) (upd (upd H1 dx (.own y)) y (.ins C dx [])) (fun v H2 => v = .non ∧ Q (.ref y) H2) (E σ)
theorem pe_makeS (M : Mk X.K C f) (F : FnOk X.prog X.w X.K X.mg X.base cx k f fd ps sp) (hr : Room (k + 1) X.A) (hg : Gl X x) (hm : X.mg x = some (.ref C)) (hb : Binds X.K fd ps []) (hx : ∀ σ, PassesAt cx X σ (E σ)) (ha : PA X (e :: es) t)
    (hdb : (x == ("__debug__" : Str)) = false := by decide) (he : starEach (e :: es) X.env = (false, eval e X.env) :: starEach es X.env := by rfl) (hpl : (backTo pos (starEach es X.env)).any (·.1) = false := by rfl) :
    PE X (.Call (.Name x p) (e :: es) [] pos) (tMakeS C sp E t) := by
  refine ⟨fun pins s σ H Q I h => wpAny_Call_Name_kw (ld_glob I hg hm ?_ hdb)⟩
  refine PySem.W.callWith_K (h₀ := X.base) I.ok.mod.kin M.kp (thn (ha.run pos pins s σ H _ I h) ?_) he hpl
  rintro us s1 ⟨vs, H1, I1, r, q⟩
  refine ⟨I1.kIn, ?_⟩
  refine run_makeS (g := fun a _ => a) (gV := fun a _ => a) (ws := []) (zs := []) M F hr (fun st y X1 hl => ?_) (fun y => .cons rfl r) (hx σ) I1 q
  have z := hb st (.ref y :: us) X1 (by rw [List.append_nil]; exact hl)
  rw [List.append_nil] at z
  exact z
/-- C(k = e, ..) -/
def tMakeSK (C : Addr) (sp : Sp) (gV : List V → List V → List V) (E : L2.St → XK) (tk : TA) : TE := fun σ H Q => tk σ H fun zs H1 => ∀ y dx, H1 y = none → H1 dx = none → dx ≠ y → sp (gV [.ref y] zs) (upd (upd H1 dx (.own y)) y (.ins C dx [])) (fun v H2 => v = .non ∧ Q (.ref y) H2) (E σ)
theorem pe_makeSK (M : Mk X.K C f) (F : FnOk X.prog X.w X.K X.mg X.base cx k f fd ps sp) (hr : Room (k + 1) X.A) (hg : Gl X x) (hm : X.mg x = some (.ref C)) (hb : KBinds X.K fd ps ks g gV) (hx : ∀ σ, PassesAt cx X σ (E σ)) (hkw : PK X kws tk)
    (hall : (backToKw pos (keywordEach kws X.env)).all (·.1.isSome) = true := by rfl) (hks : (backToKw pos (keywordEach kws X.env)).filterMap (·.1) = ks := by rfl) (hdb : (x == ("__debug__" : Str)) = false := by decide)
    (hpl : ((backTo pos (starEach [] X.env)).any (·.1) || (backToKw pos (keywordEach kws X.env)).any (·.1.isNone)) = false := by rfl) :
    PE X (.Call (.Name x p) [] kws pos) (tMakeSK C sp gV E tk) := by
  refine ⟨fun pins s σ H Q I h => wpAny_Call_Name_kw (ld_glob I hg hm ?_ hdb)⟩
  refine PySem.W.callWith_KW0 (h₀ := X.base) I.ok.mod.kin M.kp hall (thn (hkw.run pos pins s σ H _ I h) ?_) hpl
  rintro ws s2 ⟨zs, H2, I2, rz, q2⟩
  refine ⟨I2.kIn, ?_⟩
  rw [hks]
  exact run_makeS (us := []) (vs := []) (ws := ws) (zs := zs) M F hr (fun st y X1 hl => hb.to st [.ref y] ws X1 hl) (fun y => hb.rel (.cons rfl .nil) rz) (hx σ) I2 q2
end

/-! ### == and len by own methods -/
section
variable {X : Cx} {k : Nat} {f C : Addr} {fd : FuncData} {ps : List Str} {sp : Sp}
/-- x == y, x an instance of the class at C that has its own == -/
def rEqOwn (K : PySem.W.Frag) (C : Addr) (sp : Sp) : R2 := fun x y H Q => ∃ (a dx : Addr) (fs : List (Str × V)) (tb : Value), x = .ref a ∧ H a = some (.ins C dx fs) ∧ TyX K H y tb ∧ PySem.W.notFirst K C tb = true ∧ sp [x, y] H Q E0
theorem op_eqOwn {K : PySem.W.Frag} (F : FnOk X.prog X.w X.K X.mg X.base CX0 k f fd ps sp) (hr : Room k X.A) (hs : PySem.W.findIn X.K (.ref C) "__eq__" = some (some (.ref f))) (hf : PySem.W.isFn X.K (.ref f) = true) (hb : Binds X.K fd ps []) (eK : X.K = K := by rfl) :
    OpR X (compareOp .Eq) (rEqOwn K C sp) := by
  subst eK
  intro pins s σ H x y v u Q I rx ry h
  obtain ⟨a, dx, fs, tb, rfl, ha, ht, hn, hsp⟩ := h
  cases rx
  obtain ⟨mA, J, _⟩ := ins_get I.hok ha
  obtain ⟨od, J, _⟩ := J.look
  obtain ⟨P, ⟨Z, hP, _⟩⟩ := kit_of I ry ht
  obtain ⟨m, hF⟩ := I.fr
  show wpAny (model X.prog X.w) X.A (richCompare .Eq (.ref a) u) (EP X pins σ Q) X.xe s
  refine PySem.W.cmp_K (op := .Eq) hr.units0 hF I.ok.mod.kin J (Z.ty _ _ I.kIn hP) hn hs hf ?_
  have r2 : Vals [V.ref a, y] [Value.ref a, u] := .cons rfl (.cons ry .nil)
  have hl := r2.length
  rw [F.len _ _ _ _ hsp] at hl
  refine wpAny_call (codeAny_mono (F.run X.A X.stack s H ⟨[.ref a, u], []⟩ [.ref a, u] [.ref a, y] Q E0 hr I.env0 (by
    have z := hb s [.ref a, u] I.kIn (by simpa using hl.symm)
    simpa using z) r2 hsp) fun r s2 hq => ?_)
  cases r with
  | error e => exact False.elim hq
  | ok fl =>
    cases fl with
    | next => exact False.elim hq
    | brk => exact False.elim hq
    | cont => exact False.elim hq
    | ret w2 =>
      obtain ⟨z, H2, I2, rz, q2⟩ := I.after hq
      have e2 : EP X pins σ Q w2 s2 := ⟨z, H2, I2, rz, q2⟩
      cases z <;> (try obtain ⟨_, rfl⟩ := rz) <;> (try cases rz) <;> exact e2
/-- len(x), x an instance of the class at C that has its own len -/
def rLenOwn (C : Addr) (sp : Sp) : List V → Hp → VK → Prop := fun xs H Q => ∃ (a dx : Addr) (fs : List (Str × V)), xs = [.ref a] ∧ H a = some (.ins C dx fs) ∧ sp [.ref a] H (fun v H2 => ∃ n : Nat, v = .int n ∧ n < 9223372036854775808 ∧ Q (.int n) H2) E0
theorem call_lenOwn (F : FnOk X.prog X.w X.K X.mg X.base CX0 k f fd ps sp) (hr : Room (k + 1) X.A) (hs : PySem.W.findIn X.K (.ref C) "__len__" = some (some (.ref f))) (hf : PySem.W.isFn X.K (.ref f) = true) (hb : Binds X.K fd ps []) :
    CallR X (.builtin "len") (rLenOwn C sp) := by
  intro pins s σ H xs us Q I r h
  obtain ⟨a, dx, fs, rfl, ha, hsp⟩ := h
  cases r with
  | cons rx rr =>
    cases rr
    cases rx
    obtain ⟨mA, J, _⟩ := ins_get I.hok ha
    obtain ⟨od, J, _⟩ := J.look
    obtain ⟨m, hF⟩ := I.fr
    refine PySem.W.len_K hF I.ok.mod.kin J hs hf ?_
    have r2 : Vals [V.ref a] [Value.ref a] := .cons rfl .nil
    have hl := r2.length
    rw [F.len _ _ _ _ hsp] at hl
    have e0 : Env0 X.prog X.w X.K X.mg X.base X.A.in1 X.stack s H := by
      have e := I.env0
      exact ⟨e.frames, e.mod, e.bs, e.bsz, e.funs, e.frf, e.hok, e.bare⟩
    refine wpAny_call (codeAny_mono (F.run X.A.in1 X.stack s H ⟨[.ref a], []⟩ [.ref a] [.ref a] _ E0 hr.in1 e0 (by
      have z := hb s [.ref a] I.kIn (by simpa using hl.symm)
      simpa using z) r2 hsp) fun r s2 hq => ?_)
    cases r with
    | error e => exact False.elim hq
    | ok fl =>
      cases fl with
      | next => exact False.elim hq
      | brk => exact False.elim hq
      | cont => exact False.elim hq
      | ret w2 =>
        obtain ⟨z, H2, I2, rz, n, rfl, hn, q2⟩ := I.after hq
        obtain ⟨t2, rfl⟩ := rz
        exact ⟨⟨by omega, by omega⟩, .int n, H2, I2.tok _, ⟨_, rfl⟩, q2⟩
end
end SG

/-! Data that stays while the deck is drawn from; small data. -/
namespace SG
open PySem PySem.Spec PyProof.Rows L2
section
variable {K : PySem.W.Frag} {d l : Addr} {c : Nat} {H H2 : Hp}
def St (K : PySem.W.Frag) (d l : Addr) (H : Hp) (x : V) (D : PyData) : Prop := ∀ H2, Kept d l H H2 → Dp K H2 x D
def StA (K : PySem.W.Frag) (d l : Addr) (H : Hp) (xs : List V) (ds : List PyData) : Prop := ∀ H2, Kept d l H H2 → DpAll K H2 xs ds
theorem St.at {x : V} {D : PyData} (h : St K d l H x D) : Dp K H x D := h H (Kept.refl _ _ _)
theorem St.mono {x : V} {D : PyData} (h : St K d l H x D) (k : Kept d l H H2) : St K d l H2 x D := fun H3 k3 => h H3 (k.trans k3)
theorem StA.mono {xs : List V} {ds : List PyData} (h : StA K d l H xs ds) (k : Kept d l H H2) : StA K d l H2 xs ds := fun H3 k3 => h H3 (k.trans k3)
theorem St.int (i : Int) : St K d l H (.int i) (.int i) := fun _ _ => .int i
theorem St.bl (b : Bool) : St K d l H (.bl b) (.bool b) := fun _ _ => .bl b
theorem St.str (t : Str) : St K d l H (.str t) (.str t) := fun _ _ => .str t
theorem St.non : St K d l H .non .none := fun _ _ => .non
theorem St.tup {a : Addr} {xs : List V} {ds : List PyData} (D : Deck H d l c) (h : SqT K H a xs) (t : StA K d l H xs ds) : St K d l H (.ref a) (.tuple ds) := fun H3 k => .tup (k.tup D h) (t H3 k)
theorem St.lst {a : Addr} {xs : List V} {ds : List PyData} (h : H a = some (.lst xs)) (n1 : a ≠ d) (n2 : a ≠ l) (t : StA K d l H xs ds) : St K d l H (.ref a) (.list ds) := fun H3 k => .lst (SqL.of (k _ _ h n1 n2)) (t H3 k)
theorem StA.nil : StA K d l H [] [] := fun _ _ => .nil
theorem StA.cons {x : V} {xs : List V} {D : PyData} {ds : List PyData} (a : St K d l H x D) (b : StA K d l H xs ds) : StA K d l H (x :: xs) (D :: ds) := fun H3 k => .cons (a H3 k) (b H3 k)
theorem StA.app {xs ys : List V} {ds es : List PyData} (a : StA K d l H xs ds) (b : StA K d l H ys es) : StA K d l H (xs ++ ys) (ds ++ es) := fun H3 k => dpA_app (a H3 k) (b H3 k)
theorem StA.ints (ns : List Int) : StA K d l H (ns.map V.int) (dI ns) := fun _ _ => dpInts ns
end
/-! ### small data -/
structure Sm (n b : Nat) (D : PyData) : Prop where
  lay : D.canLay0 = true
  dep : D.depth ≤ n
  tell : tellable D = true
  short : D.leavesShort 4302 = true
  bulk : D.bulk ≤ b
structure SmA (n b : Nat) (ds : List PyData) : Prop where
  lay : PyData.canLayAll0 ds = true
  dep : PyData.depthAll ds ≤ n
  tell : tellableAll ds = true
  short : PyData.leavesShortAll 4302 ds = true
  bulk : PyData.bulkAll ds ≤ b
theorem Sm.ok {n b : Nat} {D : PyData} (h : Sm n b D) (hn : n ≤ 50) (hb : b ≤ 3000) : OkD D := ⟨h.lay, Nat.le_trans h.dep hn, h.tell, h.short, Nat.le_trans h.bulk hb⟩
theorem Sm.mono {n b m e : Nat} {D : PyData} (h : Sm n b D) (hn : n ≤ m) (hb : b ≤ e) : Sm m e D := ⟨h.lay, Nat.le_trans h.dep hn, h.tell, h.short, Nat.le_trans h.bulk hb⟩
theorem SmA.mono {n b m e : Nat} {ds : List PyData} (h : SmA n b ds) (hn : n ≤ m) (hb : b ≤ e) : SmA m e ds := ⟨h.lay, Nat.le_trans h.dep hn, h.tell, h.short, Nat.le_trans h.bulk hb⟩
theorem SmA.tuple {n b : Nat} {ds : List PyData} (h : SmA n b ds) : Sm (n + 1) b (.tuple ds) :=
  ⟨by simpa only [PyData.canLay0] using h.lay, by simp only [PyData.depth]; have := h.dep; omega, by simpa only [tellable] using h.tell, by simpa only [PyData.leavesShort] using h.short, by simpa only [PyData.bulk] using h.bulk⟩
theorem SmA.list {n b : Nat} {ds : List PyData} (h : SmA n b ds) : Sm (n + 1) b (.list ds) :=
  ⟨by simpa only [PyData.canLay0] using h.lay, by simp only [PyData.depth]; have := h.dep; omega, by simpa only [tellable] using h.tell, by simpa only [PyData.leavesShort] using h.short, by simpa only [PyData.bulk] using h.bulk⟩
theorem SmA.nil (n : Nat) : SmA n 0 [] := ⟨by simp [PyData.canLayAll0], by simp [PyData.depthAll], by simp [tellableAll], by simp [PyData.leavesShortAll], by simp [PyData.bulkAll]⟩
theorem SmA.cons {n b e : Nat} {D : PyData} {ds : List PyData} (h : Sm n b D) (t : SmA n e ds) : SmA n (b + 1 + e) (D :: ds) :=
  ⟨by simp only [PyData.canLayAll0, h.lay, t.lay, Bool.and_self], by simp only [PyData.depthAll]; exact Nat.max_le.mpr ⟨h.dep, t.dep⟩, by simp only [tellableAll, h.tell, t.tell, Bool.and_self], by simp only [PyData.leavesShortAll, h.short, t.short, Bool.and_self],
    by simp only [PyData.bulkAll]; have := h.bulk; have := t.bulk; omega⟩
theorem SmA.app {n e : Nat} {es : List PyData} (t : SmA n e es) : ∀ {ds : List PyData} {b : Nat}, SmA n b ds → SmA n (b + e) (ds ++ es)
  | [], b, h => t.mono (Nat.le_refl _) (by omega)
  | D :: ds, b, h => by
    have l1 : D.canLay0 = true ∧ PyData.canLayAll0 ds = true := by simpa only [PyData.canLayAll0, Bool.and_eq_true] using h.lay
    have l2 : tellable D = true ∧ tellableAll ds = true := by simpa only [tellableAll, Bool.and_eq_true] using h.tell
    have l3 : D.leavesShort 4302 = true ∧ PyData.leavesShortAll 4302 ds = true := by simpa only [PyData.leavesShortAll, Bool.and_eq_true] using h.short
    have l4 : D.depth ≤ n ∧ PyData.depthAll ds ≤ n := by have := h.dep; simp only [PyData.depthAll] at this; exact Nat.max_le.mp this
    have l5 : D.bulk + 1 + PyData.bulkAll ds ≤ b := by have := h.bulk; simpa only [PyData.bulkAll] using this
    have z := SmA.app t (ds := ds) (b := PyData.bulkAll ds) ⟨l1.2, l4.2, l2.2, l3.2, Nat.le_refl _⟩
    exact (SmA.cons ⟨l1.1, l4.1, l2.1, l3.1, Nat.le_refl _⟩ z).mono (Nat.le_refl _) (by omega)
theorem Sm.int {i : Int} (h : i.natAbs < 10 ^ 4300) : Sm 0 0 (.int i) := by
  have z := OkD.int h
  exact ⟨z.lay, by simp [PyData.depth], z.tell, z.short, by simp [PyData.bulk]⟩
theorem SmA.ints : ∀ {ns : List Int}, (∀ n ∈ ns, n.natAbs < 10 ^ 4300) → SmA 0 ns.length (dI ns)
  | [], _ => .nil 0
  | n :: ns, h => (SmA.cons (Sm.int (h n List.mem_cons_self)) (SmA.ints fun m hm => h m (List.mem_cons_of_mem _ hm))).mono (Nat.le_refl _) (by simp; omega)
end SG

/-! Texts: joined signs; lists of values that are drawn. -/
namespace SG
open PySem PySem.Spec PyProof.Rows L2 TL
open SX (S S_tl S_len)
def rJoin (K : PySem.W.Frag) : V → List V → Hp → VK → Prop := fun x xs H Q => ∃ a p, ∃ ys : List Str, x = .str a ∧ xs = [.ref p] ∧ (SqL K H p (ys.map V.str) ∨ SqT K H p (ys.map V.str)) ∧ (ys.map (·.length)).sum + ys.length * a.length ≤ 16777216 ∧ Q (.str (Txt.join a ys)) H
theorem k_join {X : Cx} {K : PySem.W.Frag} {o e : Expr} {to te : TE} {apos pos : Pos} (ho : PE X o to) (he : PE X e te) (eK : X.K = K := by rfl) (hs : starEach [e] X.env = [(false, eval e X.env)] := by rfl) (hbase : attributeBase o "join" X.env (eval o X.env) = eval o X.env := by rfl) (hline : (apos.endLine == pos.line) = true := by rfl) :
    PE X (.Call (.Attribute o "join" apos) [e] [] pos) (tM1 (rJoin K) to te) := eK ▸ pe_join ho he hs hbase hline
/-- single signs, joined -/
theorem join_signs : ∀ gs : List Nat, Txt.join "" (gs.map fun g => (⟨#[g]⟩ : Str)) = S gs := by
  intro gs
  rw [join_eq]
  have z := tl_join "" (gs.map fun g => (⟨#[g]⟩ : Str))
  have e : ∀ ls : List Nat, joinL (tl ("" : Str)) (ls.map fun g => [g]) = ls := by
    intro ls
    induction ls with
    | nil => rfl
    | cons a r ih =>
      cases r with
      | nil => rfl
      | cons b r2 =>
        show [a] ++ (tl ("" : Str) ++ joinL (tl ("" : Str)) ((b :: r2).map fun g => [g])) = _
        rw [ih]
        rfl
  rw [List.map_map] at z
  have z2 := z.trans (e gs)
  exact (S_tl _).symm.trans (congrArg S z2)
/-- a list of values that are drawn, turn by turn -/
theorem lc_drawsV {d l D : Addr} {c n s : Nat} {te : TE} {σ : L2.St} {H1 : Hp} {Qd : Hp → Prop} {B : V → Prop} (D0 : Deck H1 d l c) (hD : H1 D = none) (hn : n ≤ 1000)
    (turn : ∀ (i : Nat) (H2 : Hp), i < n → Deck H2 d l (c + i) → Kept d l H1 H2 → ∀ R : VK, (∀ (x : V) (H3 : Hp), B x → Deck H3 d l (c + i + 1) → Kept d l H2 H3 → R x H3) → te ((wipe σ [s]).set s (some (.int (0 + i)))) H2 R)
    (done : ∀ (xs : List V) (H2 : Hp), xs.length = n → (∀ x ∈ xs, B x) → H2 D = some (.lst xs) → Deck H2 d l (c + n) → Kept d l H1 H2 → Qd H2) :
    ∃ W : Nat → Nat → Hp → Prop, (∃ m, W 0 m (upd H1 D (.lst []))) ∧ ∀ i m H, W i m H →
      ((Itr 0 n).stop i H ∧ Qd H) ∨ ((Itr 0 n).go i H ∧ ∃ Nx : Hp → Prop, (∀ H2, Nx H2 → ∃ m2, m2 < m ∧ W (i + 1) m2 H2) ∧ ∀ x H2, (Itr 0 n).yld i H x H2 → gName s x (wipe σ [s]) H2 fun σ2 H3 => wipe σ2 [s] = wipe σ [s] ∧ tYes σ2 H3 fun b H4 =>
        if b = true then te σ2 H4 fun y H5 => ∃ acc, H5 D = some (.lst acc) ∧ acc.length < sizeLine ∧ Nx (upd H5 D (.lst (acc ++ [y]))) else Nx H4) := by
  obtain ⟨nd, nl⟩ := D0.ne hD
  refine lc_range (fun i H2 => ∃ xs : List V, xs.length = i ∧ (∀ x ∈ xs, B x) ∧ H2 D = some (.lst xs) ∧ Deck H2 d l (c + i) ∧ Kept d l H1 H2) ?_ ?_ ?_
  · exact ⟨[], rfl, (fun _ h => absurd h List.not_mem_nil), upd_same, D0.upd hD, .of (same_new hD)⟩
  · rintro i H2 hi ⟨xs, hx, hB, hD2, D2, k2⟩
    refine ⟨wipe1 _ _ _, ?_⟩
    refine yesI ?_
    refine turn i H2 hi D2 k2 _ fun x H3 hb D3 k3 => ⟨xs, k3 _ _ hD2 nd nl, ?_, xs ++ [x], by simp [hx], fun y hy => ?_, upd_same, ?_, ?_⟩
    · rw [hx]
      exact small1000 (by omega)
    · rcases List.mem_append.mp hy with h | h
      · exact hB y h
      · rw [List.mem_singleton.mp h]; exact hb
    · obtain ⟨cs, m, k, h1, h2, h3⟩ := D3
      exact ⟨cs, m, k, by rw [upd_ne nd.symm]; exact h1, by rw [upd_ne nl.symm]; exact h2, h3⟩
    · intro b o e h1 h2
      rw [upd_ne (ne_of_none e hD)]
      exact k3 _ _ (k2 _ _ e h1 h2) h1 h2
  · rintro H2 ⟨xs, hx, hB, hD2, D2, k2⟩
    exact done xs H2 hx hB hD2 D2 k2
/-- values that are single signs -/
theorem signs_of : ∀ {xs : List V} {p : Nat → Prop}, (∀ x ∈ xs, ∃ g, p g ∧ x = .str ⟨#[g]⟩) → ∃ gs : List Nat, xs = (gs.map fun g => (⟨#[g]⟩ : Str)).map V.str ∧ ∀ g ∈ gs, p g
  | [], _, _ => ⟨[], rfl, fun _ h => nomatch h⟩
  | x :: xs, p, h => by
    obtain ⟨g, hg, rfl⟩ := h x List.mem_cons_self
    obtain ⟨gs, rfl, hs⟩ := signs_of (xs := xs) (p := p) fun y hy => h y (List.mem_cons_of_mem _ hy)
    refine ⟨g :: gs, rfl, fun y hy => ?_⟩
    rcases List.mem_cons.mp hy with rfl | hy
    · exact hg
    · exact hs y hy
theorem sum_ones : ∀ gs : List Nat, ((gs.map fun g => (⟨#[g]⟩ : Str)).map (·.length)).sum = gs.length
  | [] => rfl
  | g :: gs => by
    have ih := sum_ones gs
    simp only [List.map_cons, List.sum_cons, List.length_cons, ih]
    show 1 + gs.length = _
    omega
end SG

/-! enumerate of a text from a number on; an integer's figures of base 2 in an f-string. -/
namespace SG
section
open PySem PyProof.Rows Builtin
def fB : PySem.Builtin.Float.FormatSpec := { fill := 32, align := 62, type := some 98 }
theorem fB_ok : PySem.Builtin.Float.parseFormatSpec ("b" : PySem.Str).cps.toList "int" 62 = .ok fB := by
  rfl
section
variable {prog : Program} {w : World} {A : Around} {E : Value → Shared → Prop} {s : Shared} {env : Env}
theorem mk_eq {M : Model} {X T : PySem.Str} {Q : Value → Shared → Prop} (e : X = T) (hL : T.length ≤ sizeLine) (h : Q (.str T s.toks) { s with toks := s.toks + 1 }) : wpAny M A (mkStr X) Q E s := by
  subst e
  exact wpAny_mkStr h hL
theorem formatField_int_b2 {n : Nat} {t : Tok} {spec : PySem.Str} {f : PySem.Builtin.Float.FormatSpec} {Q : Value → Shared → Prop} (hl : (Nat.toDigits 2 n).length ≤ 1000) (hd : Nat.toDigits 2 n ≠ [])
    (hp : PySem.Builtin.Float.parseFormatSpec spec.cps.toList "int" 62 = .ok f) (hty : f.type = some 98) (hpr : f.precision = none) (hz : f.noNeg0 = false) (hal : f.alt = false) (hw : f.width = none) (hgr : f.grouping = none) (hsg : f.sign = none) (hfi : f.fill = 32) (hag : f.align = 62) (hne : (spec.length == 0) = false) (hsz : spec.length ≤ sizeLine)
    (hasc : ((spec.cps.toList.drop 1).any (· ≥ 128) || (spec.cps.getD 0 0 ≥ 128 && !([60, 62, 61, 94] : List Nat).contains (spec.cps.getD 1 0))) = false)
    (h : Q (.str ⟨((Nat.toDigits 2 n).map Char.toNat).toArray⟩ (s.toks + 1)) { s with toks := s.toks + 1 + 1 }) :
    wpAny (model prog w) A (formatField (.int n t) spec) Q E s := by
  show wpAny _ _ (holding [.int n t] (pyFormat (.int n t) spec)) Q E s
  refine wpAny_holding ?_
  unfold pyFormat
  refine wpAny_bind (wpAny_mkStr ?_ hsz)
  refine wpAny_bind (m := callSpecial? (.int n t) (Str.ofString "__format__") [.str spec s.toks]) (wpAny_callSpecial?_slot (name := Str.ofString "__format__") (typeIs_int _ n t) slot_int_format ?_)
  refine wpAny_call (codeAny_call_builtin slot_int_format.plain entry_int_format (slot_int_format.check _ _ _ _ _ _ _ _ (typeIs_int _ n t) (args_int_format _ _) ?_))
  unfold Builtin.«int.__format__»
  simp only [selfAndOne, noKeywords, Int.intOfSelf, asInt?, asStr?, List.isEmpty_nil, if_true, pure_bind, bind_pure, bind_assoc, hne, hasc, Bool.false_eq_true, if_false,
    show (Value.str spec s.toks == Value.none) = false from rfl]
  refine wpAny_bind (wpAny_typeNameOf (T := "str") (typeIs_str _ _ _) (by decide) fun _ => ?_)
  first | refine wpAny_bind (wpAny_typeNameOfCut_int ?_) | refine wpAny_bind (wpAny_typeNameOf_int ?_)
  simp only [hp, hty, Option.getD_some]
  rw [if_pos (by decide)]
  show wpAny _ _ (if _ then _ else _) _ _ _
  rw [if_neg (by simp [hpr])]
  show wpAny _ _ (if _ then _ else _) _ _ _
  rw [if_neg (by simp [hz])]
  show wpAny _ _ (if _ then _ else _) _ _ _
  rw [if_neg (by decide)]
  show wpAny _ _ (if _ then _ else _) _ _ _
  rw [if_neg (by decide)]
  show wpAny _ _ (if _ then _ else _) _ _ _
  rw [if_neg (by simp [hw])]
  show wpAny _ _ (retStr _) _ _ _
  unfold retStr
  have e : ∀ d : Nat, (if ((98 : Nat) == 88) = true then (Nat.digitChar d).toUpper else Nat.digitChar d).toNat = (Nat.digitChar d).toNat := fun d => rfl
  refine wpAny_bind (mk_eq (T := ⟨((Nat.toDigits 2 n).map Char.toNat).toArray⟩) ?_ ?_ (wpAny_pure ?_))
  · rw [if_neg (show ¬ f.alt = true by rw [hal]; exact Bool.false_ne_true)]
    have e1 : (List.map (fun c : Char => (if ((98 : Nat) == 88) = true then c.toUpper else c).toNat) (Nat.toDigits 2 (n : Int).natAbs)) = (Nat.toDigits 2 n).map Char.toNat := rfl
    have e2 : decide ((n : Int) < 0) = false := decide_eq_false (by omega)
    have e3 : ((Nat.toDigits 2 n).map Char.toNat).isEmpty = false := by
      cases q : Nat.toDigits 2 n with
      | nil => exact absurd q hd
      | cons _ _ => rfl
    rw [e1, e2]
    have ef : f = fB := by
      cases f
      simp_all [fB]
    clear hp hty hpr hz hal hw hgr hsg hfi hag h
    subst ef
    generalize (Nat.toDigits 2 n).map Char.toNat = ds at e3 ⊢
    cases ds with
    | nil => cases e3
    | cons a r =>
      conv => lhs; whnf
      have z : ((-1 : Int) - ((0 : Nat) + (0 : Nat) + (0 : Nat)) - (((a :: r).length : Nat) : Int)).toNat = 0 := by omega

      simp [fB]
      omega
  · show ((Nat.toDigits 2 n).map Char.toNat).toArray.size ≤ sizeLine
    rw [List.size_toArray, List.length_map]
    exact Nat.le_trans hl (by decide)
  · dsimp only
    refine wpAny_bind (wpAny_isInstance (typeIs_str _ _ _) isSubtype_str_str (wpAny_pure ?_))
    exact h
theorem formatField_int_b {n : Nat} {t : Tok} {Q : Value → Shared → Prop} (hl : (Nat.toDigits 2 n).length ≤ 1000) (hd : Nat.toDigits 2 n ≠ [])
    (h : Q (.str ⟨((Nat.toDigits 2 n).map Char.toNat).toArray⟩ (s.toks + 1)) { s with toks := s.toks + 1 + 1 }) :
    wpAny (model prog w) A (formatField (.int n t) "b") Q E s :=
  formatField_int_b2 hl hd fB_ok rfl rfl rfl rfl rfl rfl rfl rfl rfl (by decide +kernel) (by decide) (by decide +kernel) h
end
end
end SG
namespace SG
open PySem PySem.Spec PyProof.Rows L2
section
variable {M : Model} {A : Around} {E : Value → Shared → Prop} {s : Shared} {env : Env}
theorem callWith_tyKwB {pos : Pos} {T : String} {first : List Value} {args : List (Bool × Sem Value)} {keywords : List (Option Str × Sem Value)} {Q : Value → Shared → Prop}
    (hplain : args.any (·.1) = false) (hkw : keywords.any (·.1.isNone) = false)
    (h : wpAny M A (evalArgs (.type T) true args keywords) (fun a s₁ => wpAny M A (call (.type T) (first ++ a.pos) a.kw) Q E s₁) E s) :
    wpAny M A (callWith pos (.type T) first args keywords) Q E s := by
  unfold callWith
  refine wpAny_bind (wpAny_holding (wpAny_mono h (fun a s₁ h₁ => wpAny_bind (wpAny_standAt ?_)) fun _ _ x => x))
  simp only [hplain, hkw, Bool.or_false]
  refine wpAny_bind (wpAny_pure ?_)
  exact wpAny_bind (wpAny_mono h₁ (fun r s₂ hr => wpAny_bind (wpAny_holding (wpAny_point (wpAny_pure hr)))) fun _ _ x => x)
theorem callWith_tyKw {pos : Pos} {T : String} {e : Expr} {rest : List Expr} {kws : List Keyword} {Q : Value → Shared → Prop}
    (h : wpAny M A (spliced (backTo pos (starEach (e :: rest) env))) (fun vs s₁ => wpAny M A (evalAll ((backToKw pos (keywordEach kws env)).map (·.2)))
      (fun kvs s₂ => wpAny M A (call (.type T) vs (((backToKw pos (keywordEach kws env)).filterMap (·.1)).zip kvs)) Q E s₂) E s₁) E s)
    (he : backTo pos (starEach (e :: rest) env) = (false, eval e env) :: backTo pos (starEach rest env) := by rfl)
    (hplain : (backTo pos (starEach (e :: rest) env)).any (·.1) = false := by rfl)
    (hall : (backToKw pos (keywordEach kws env)).all (·.1.isSome) = true := by rfl)
    (hkw : (backToKw pos (keywordEach kws env)).any (·.1.isNone) = false := by rfl) :
    wpAny M A (callWith pos (.type T) [] (backTo pos (starEach (e :: rest) env)) (backToKw pos (keywordEach kws env))) Q E s := by
  refine callWith_tyKwB hplain hkw ?_
  rw [he] at h ⊢
  exact evalArgs_kwB hall h
end
theorem Draws.shift {prog : Program} {w : World} {A : Around} {it : Addr} {fp : List Addr} {n : Nat} {P : Nat → Value → Prop} {St : Nat → Heap → Prop} (D : Draws prog w A it fp n P St) (k : Nat) :
    Draws prog w A it fp (k + n) (fun j v => P (j - k) v) (fun j h => k ≤ j ∧ St (j - k) h) where
  live := fun _ _ st => D.live _ _ st.2
  frame := fun _ _ _ st hk => ⟨st.1, D.frame _ _ _ st.2 hk⟩
  item := fun i s Q E hi st hQ => D.item (i - k) s Q E (by omega) st.2 fun v h' tk p st' sb => hQ v h' tk p ⟨by omega, by rw [show i + 1 - k = i - k + 1 by omega]; exact st'⟩ sb
  done := fun s Q E st hE => D.done s Q E (by rw [show n = k + n - k by omega]; exact st.2) hE
/-- a text's signs, each behind its number, from k on, in a new pair -/
def IteS (x : Str) (k : Nat) : It :=
  ⟨fun i _ => i < x.cps.size, fun i Hx v H2 => ∃ T c, v = .ref T ∧ Hx T = none ∧ x.cps[i]? = some c ∧ H2 = upd Hx T (.tup [.int ((k + i : Nat) : Int), .str ⟨#[c]⟩]), fun i _ => x.cps.size ≤ i⟩
theorem turn_enumS {P : Program} {w : World} {K : PySem.W.Frag} {elts : List Expr} {kk : Nat} {tpos : Pos} (x : Str) (t : Tok) (k : Nat) (e it : Addr) :
    Turn P w K (.Tuple elts kk tpos) (IteS x k) [e, it] e (fun i h => (∃ old, IsEnum h e it ((k + i : Nat) : Int) old) ∧ h.IsStrIter it (strIterType x) x t i ∧ e ≠ it) where
  mem := by simp
  obj := fun i h q b hb => by
    obtain ⟨⟨old, he⟩, ⟨o, ho, hc, hd⟩, _⟩ := q
    rcases (show b = e ∨ b = it by simpa using hb) with z | z
    · rw [z]; exact ⟨_, he, fun v q => nomatch q⟩
    · rw [z]; exact ⟨o, ho, fun v q => by rw [hd] at q; cases q⟩
  keep := fun i h h2 q kp => by
    obtain ⟨⟨old, he⟩, ⟨o, ho, r⟩, hne⟩ := q
    exact ⟨⟨old, kp e (by simp) _ he⟩, ⟨o, kp it (by simp) o ho, r⟩, hne⟩
  item := by
    intro X hP hw hK hc i pins st σ Hx E I hf q hg
    subst hP hw hK
    obtain ⟨⟨old, he⟩, hit, hne⟩ := q
    have hel : e < st.heap.objs.size := Heap.lt_size he
    have hil : it < st.heap.objs.size := by obtain ⟨_, z, _⟩ := hit; exact Heap.lt_size z
    have hi : i < x.cps.size := hg
    refine wpAny_pyNext_enum_itemD (Draws.shift (Draws.text (prog := X.prog) (w := X.w) (A := X.A.in1) (I.ok.hd hc) it x t) k) (i := k + i) he ⟨Nat.le_add_right _ _, by rw [Nat.add_sub_cancel_left]; exact hit⟩ (by omega) hne (by simp [hne]) fun y h1 tk hy ho hs1 hT hsz hk => ?_
    obtain ⟨c, u, hcx, rfl⟩ := hy
    rw [Nat.add_sub_cancel_left] at hcx
    have hs2 := hs1.2
    rw [show k + i + 1 - k = i + 1 by omega] at hs2
    refine ⟨_, rfl, wpAny_letOwnedTupleGo_enum (s := { st with heap := h1, toks := tk + 1 }) ho fun h2 he2 sb => ?_⟩
    have hT2 : h2.get? st.heap.objs.size = some { cls := .type "tuple", data := .seq #[.int ((k + i : Nat) : Int) tk, .str ⟨#[c]⟩ u] } := (sb.2 _ (Nat.ne_of_gt hel)).trans hT
    have new : ObjOk X.prog X.w (upd Hx st.heap.objs.size (.tup [.int ((k + i : Nat) : Int), .str ⟨#[c]⟩])) h2 st.heap.objs.size (.tup [.int ((k + i : Nat) : Int), .str ⟨#[c]⟩]) :=
      ⟨by show 2 ≤ sizeLine; decide, [.int ((k + i : Nat) : Int) tk, .str ⟨#[c]⟩ u], .cons ⟨_, rfl⟩ (.cons ⟨_, rfl⟩ .nil), ⟨_, hT2, rfl, _, rfl⟩⟩
    have I1 : L2.Inv X pins σ (upd Hx st.heap.objs.size (.tup [.int ((k + i : Nat) : Int), .str ⟨#[c]⟩])) { st with heap := h2, toks := tk + 1 } :=
      I.turnedNew (ch := [e, it]) (fun b ob hb z => (sb.2 b (fun z => hb (by simp [z]))).trans (hk b ob (fun z => hb (by simp [z])) (fun z => hb (by simp [z])) z)) hf (Nat.le_refl _) new
    refine ⟨.ref st.heap.objs.size, _, I1, rfl, ⟨_, c, rfl, I.hok.fresh (Nat.le_refl _), hcx, rfl⟩, ⟨⟨.str ⟨#[c]⟩ u, ?_⟩, ?_, hne⟩, fun b hb => ?_⟩
    · rw [show ((k + (i + 1) : Nat) : Int) = ((k + i : Nat) : Int) + 1 by omega]
      exact he2
    · obtain ⟨o, ho, r⟩ := hs2
      exact ⟨o, (sb.2 it (Ne.symm hne)).trans ho, r⟩
    · have hb2 : b < st.heap.objs.size := by
        rcases (show b = e ∨ b = it by simpa using hb) with z | z
        · rw [z]; exact hel
        · rw [z]; exact hil
      rw [upd_ne (Nat.ne_of_lt hb2)]
      exact (hf b hb).1
  done := by
    intro X hP hw hK hc i pins st σ Hx E I hf q hg
    subst hP hw hK
    obtain ⟨⟨old, he⟩, hit, hne⟩ := q
    obtain ⟨f0, f1, f2, f3, f4, f5⟩ := hf it (by simp)
    have hx : x.cps[i]? = none := Array.getElem?_eq_none hg
    have D : Draws X.prog X.w X.A.in1 it [it] i (fun _ _ => True) (fun j h => j = i ∧ h.IsStrIter it (strIterType x) x t i) :=
      { live := fun _ _ z => by obtain ⟨_, ⟨o, ho, _⟩⟩ := z; exact ⟨o, ho⟩
        frame := fun _ _ _ z hk => ⟨z.1, by obtain ⟨o, ho, r⟩ := z.2; exact ⟨o, hk it (by simp) o ho, r⟩⟩
        item := fun j s Q E hj z => absurd z.1 (Nat.ne_of_lt hj)
        done := fun s Q E z hE => ?dn }
    case dn =>
      obtain ⟨_, z⟩ := z
      revert z
      unfold strIterType
      cases ha : x.cps.all (· < 128)
      · simp only [Bool.false_eq_true, if_false]
        intro z
        exact wpAny_nextOf_wide_end (I.ok.hd hc) z hx hE
      · simp only [if_true]
        intro z
        exact wpAny_nextOf_ascii_end (I.ok.hd hc) z hx hE
    exact wpAny_pyNext_enum_endD D he ⟨rfl, hit⟩ fun h2 eb => ⟨rfl, I.turned (t' := st.toks) (fun b o hb q => eb b o hb q) f0 f1 f3 f4 f5⟩
  self := fun A i st Q E q h => by
    obtain ⟨⟨_, he⟩, _⟩ := q
    exact wpAny_pyIter_enum he h
def iEnumS (ta tk : TA) : TI := fun σ Hx R => ta σ Hx fun vs H1 => tk σ H1 fun ks H2 => ∃ (x : Str) (k : Nat), vs = [.str x] ∧ ks = [.int k] ∧ k < 1000000 ∧ R (IteS x k) H2
theorem pi_enumS {X : Cx} {e c : Expr} {ta tk : TA} {p pos tpos kpos : Pos} {elts : List Expr} {kk : Nat} (hg : Gl X "enumerate") (hm : X.mg "enumerate" = none) (ha : PA X [e] ta) (hk : PK X [⟨some "start", c, kpos⟩] tk) (hs : starEach [e] X.env = [(false, eval e X.env)] := by rfl) :
    PI X (.Tuple elts kk tpos) (.Call (.Name "enumerate" p) [e] [⟨some "start", c, kpos⟩] pos) (iEnumS ta tk) := by
  refine ⟨fun pins st σ Hx R I h => ?_⟩
  refine wpAny_Call_Name_kw (ld_blt I hg hm boot_enumerate (callWith_tyKw (thn (ha.run pos pins st σ Hx _ I h) ?_) (by rw [hs]; rfl) (by rw [hs]; rfl)))
  rintro us s1 ⟨vs, H1, I1, r1, q1⟩
  refine thn (hk.run pos pins s1 σ H1 _ I1 q1) ?_
  rintro ws s2 ⟨zs, H2, I2, r2, x, k, rfl, rfl, hk9, q⟩
  obtain ⟨t, rfl⟩ : ∃ t, us = [.str x t] := by
    cases r1 with
    | cons x y => cases y; obtain ⟨t, rfl⟩ := x; exact ⟨_, rfl⟩
  obtain ⟨u, rfl⟩ : ∃ u, ws = [.int k u] := by
    cases r2 with
    | cons x y => cases y; obtain ⟨t, rfl⟩ := x; exact ⟨_, rfl⟩
  show wpAny _ _ (call (.type "enumerate") [.str x t] [(Str.ofString "start", .int k u)]) _ _ _
  refine enum_begins_start (begins_text x t) trivial (by omega) (by omega) fun h2 he hit hsz hkp => wpAny_pyIter_enum he ?_
  have I3 : L2.Inv X pins σ H2 { s2 with heap := h2 } := I2.kept (t' := s2.toks) hkp
  refine ⟨s2.heap.objs.size + 1, [s2.heap.objs.size + 1, s2.heap.objs.size], _, _, H2, rfl, I3, turn_enumS x t k (s2.heap.objs.size + 1) s2.heap.objs.size,
    ⟨⟨.none, he⟩, ⟨_, hit, rfl, rfl⟩, Nat.succ_ne_self _⟩, fun b hb => ?_, q⟩
  have hle : s2.heap.objs.size ≤ b := by
    rcases (show b = s2.heap.objs.size + 1 ∨ b = s2.heap.objs.size by simpa using hb) with z | z
    · rw [z]; exact Nat.le_succ _
    · rw [z]; exact Nat.le_refl _
  exact I2.fpOk hle (I2.hok.fresh hle)
end SG

namespace SG
open PySem PySem.Spec PyProof.Rows L2
open SX (S)
/-- an integer's figures of base 2, as signs -/
def binS (n : Nat) : List Nat := (Nat.toDigits 2 n).map Char.toNat
def tFmtB (te : TE) : TE := fun σ H Q => te σ H fun x H1 => ∃ n : Nat, x = .int n ∧ n < 2 ^ 900 ∧ Q (.str (S (binS n))) H1
theorem bin_len {n : Nat} (h : n < 2 ^ 900) : (Nat.toDigits 2 n).length ≤ 1000 := Nat.le_trans (toDigits_len_pow (by decide) (by decide) h) (by decide)
theorem bin_ne (n : Nat) : Nat.toDigits 2 n ≠ [] := by
  intro e
  have := toDigits_len_ge 2 n
  rw [e] at this
  cases this
theorem pe_fmtB {X : Cx} {e : Expr} {te : TE} {pos p1 p2 : Pos} {j : Nat} (he : PE X e te) : PE X (.FormattedValue e (-1) (some (.JoinedStr [.Constant (.str "b") j p1] p2)) pos) (tFmtB te) := by
  refine ⟨fun pins s σ H Q I h => wpAny_FormattedValue_spec (thn (he.run pins s σ H _ I h) ?_)⟩
  rintro v s1 ⟨x, H1, I1, r1, n, rfl, hn, q⟩
  obtain ⟨t, rfl⟩ := r1
  refine thn ((pe_joined1 (X := X) (pe_str (x := "b"))).run pins s1 σ H1 (fun y H2 => y = .str "b" ∧ H2 = H1) I1 ⟨rfl, rfl⟩) ?_
  rintro u s2 ⟨y, H2, I2, r2, rfl, rfl⟩
  obtain ⟨t2, rfl⟩ := r2
  exact ⟨_, _, rfl, formatField_int_b (bin_len hn) (bin_ne n) ⟨.str (S (binS n)), H2, I2.tok _, ⟨_, rfl⟩, q⟩⟩
theorem walk_enumS {x : Str} {k : Nat} : Walk (IteS x k) x.cps.size (fun _ => True) (fun i H v H' => ∃ T c, v = .ref T ∧ H T = none ∧ x.cps[i]? = some c ∧ H' = upd H T (.tup [.int ((k + i : Nat) : Int), .str ⟨#[c]⟩])) :=
  ⟨fun _ _ hi _ => hi, fun _ _ => Nat.le_refl _, fun _ _ _ _ _ _ y => y⟩
end SG

/-! zip of two texts, sign by sign. -/
namespace SG
open PySem PySem.Spec PyProof.Rows L2
def ItzS (x y : Str) : It :=
  ⟨fun i _ => i < x.cps.size ∧ i < y.cps.size, fun i H v H2 => ∃ T c e, v = .ref T ∧ H T = none ∧ x.cps[i]? = some c ∧ y.cps[i]? = some e ∧ H2 = upd H T (.tup [.str ⟨#[c]⟩, .str ⟨#[e]⟩]), fun i _ => x.cps.size ≤ i ∨ y.cps.size ≤ i⟩
theorem turn_zipS {P : Program} {w : World} {K : PySem.W.Frag} {elts : List Expr} {kk : Nat} {tpos : Pos} {x y : Str} {t u : Tok} {z TI TO i1 i2 : Addr} (D : ZipSep2 z TI TO i1 i2 [i1] [i2]) :
    Turn P w K (.Tuple elts kk tpos) (ItzS x y) [z, TI, TO, i1, i2] z (fun i h => IsZip h z TI TO .none ∧ IsTupOf2 h TI (.ref i1) (.ref i2) ∧ (∃ a b, IsTupOf2 h TO a b) ∧ h.IsStrIter i1 (strIterType x) x t i ∧ h.IsStrIter i2 (strIterType y) y u i ∧ i ≤ x.cps.size ∧ i ≤ y.cps.size) where
  mem := by simp
  obj := fun i h st c hc => by
    obtain ⟨hz, hTI, ⟨a, b, hTO⟩, ⟨o1, e1, _, d1⟩, ⟨o2, e2, _, d2⟩, _⟩ := st
    rcases (show c = z ∨ c = TI ∨ c = TO ∨ c = i1 ∨ c = i2 by simpa using hc) with q | q | q | q | q
    · rw [q]; exact ⟨_, hz, fun v n => nomatch n⟩
    · rw [q]; exact ⟨_, hTI, fun v n => nomatch n⟩
    · rw [q]; exact ⟨_, hTO, fun v n => nomatch n⟩
    · exact ⟨o1, q ▸ e1, fun v q => by rw [d1] at q; cases q⟩
    · exact ⟨o2, q ▸ e2, fun v q => by rw [d2] at q; cases q⟩
  keep := fun i h h2 st k => by
    obtain ⟨hz, hTI, ⟨a, b, hTO⟩, ⟨o1, e1, r1⟩, ⟨o2, e2, r2⟩, l⟩ := st
    exact ⟨k z (by simp) _ hz, k TI (by simp) _ hTI, ⟨a, b, k TO (by simp) _ hTO⟩, ⟨o1, k i1 (by simp) o1 e1, r1⟩, ⟨o2, k i2 (by simp) o2 e2, r2⟩, l⟩
  item := by
    intro X hP hw hK hc i pins s σ H E I hf st hg
    subst hP hw hK
    obtain ⟨hz, hTI, ⟨a, b, hTO⟩, h1, h2, l1, l2⟩ := st
    obtain ⟨g1, g2⟩ := hg
    have hzl : z < s.heap.objs.size := Heap.lt_size hz
    refine wpAny_pyNext_zipD2_item D (Draws.text (prog := X.prog) (w := X.w) (A := X.A.in1) (I.ok.hd hc) i1 x t) (Draws.text (prog := X.prog) (w := X.w) (A := X.A.in1) (I.ok.hd hc) i2 y u) (i := i) hz hTI hTO h1 h2 g1 g2 ?_
    rintro x1 x2 h3 tk ⟨c, u1, hc1, rfl⟩ ⟨e, u2, he1, rfl⟩ hz2 hTO2 s1 s2 hT hsz hk
    refine ⟨_, rfl, wpAny_letOwnedTupleGo_zip (s := { s with heap := h3, toks := tk }) hz2 fun h4 hz4 sb => ?_⟩
    have hT4 : h4.get? s.heap.objs.size = some { cls := .type "tuple", data := .seq #[.str ⟨#[c]⟩ u1, .str ⟨#[e]⟩ u2] } := (sb.2 _ (Nat.ne_of_gt hzl)).trans hT
    have new : ObjOk X.prog X.w (upd H s.heap.objs.size (.tup [.str ⟨#[c]⟩, .str ⟨#[e]⟩])) h4 s.heap.objs.size (.tup [.str ⟨#[c]⟩, .str ⟨#[e]⟩]) :=
      ⟨by show 2 ≤ sizeLine; decide, [.str ⟨#[c]⟩ u1, .str ⟨#[e]⟩ u2], .cons ⟨_, rfl⟩ (.cons ⟨_, rfl⟩ .nil), ⟨_, hT4, rfl, _, rfl⟩⟩
    have I1 : L2.Inv X pins σ (upd H s.heap.objs.size (.tup [.str ⟨#[c]⟩, .str ⟨#[e]⟩])) { s with heap := h4, toks := tk } :=
      I.turnedNew (ch := [z, TI, TO, i1, i2]) (fun b o hb q => (sb.2 b (fun q2 => hb (by simp [q2]))).trans (hk b o (fun q2 => hb (by simp [q2])) (fun q2 => hb (by simp [q2])) (fun q2 => hb (by simp [q2])) (fun q2 => hb (by simp [q2])) q)) hf (Nat.le_refl _) new
    refine ⟨.ref s.heap.objs.size, _, I1, rfl, ⟨_, c, e, rfl, I.hok.fresh (Nat.le_refl _), hc1, he1, rfl⟩, ⟨hz4, ?_, ⟨.str ⟨#[c]⟩ u1, .str ⟨#[e]⟩ u2, ?_⟩, ?_, ?_, g1, g2⟩, fun b hb => ?_⟩
    · exact (sb.2 _ D.TIz).trans (hk _ _ D.TIz D.TITO D.TIi1 D.TIi2 hTI)
    · exact (sb.2 _ D.TOz).trans hTO2
    · obtain ⟨o, ho, r⟩ := s1
      exact ⟨o, (sb.2 _ D.zi1.symm).trans ho, r⟩
    · obtain ⟨o, ho, r⟩ := s2
      exact ⟨o, (sb.2 _ D.zi2.symm).trans ho, r⟩
    · have hb2 : b < s.heap.objs.size := by
        rcases (show b = z ∨ b = TI ∨ b = TO ∨ b = i1 ∨ b = i2 by simpa using hb) with q | q | q | q | q
        · exact q ▸ hzl
        · exact q ▸ Heap.lt_size hTI
        · exact q ▸ Heap.lt_size hTO
        · obtain ⟨_, e1, _⟩ := h1; exact q ▸ Heap.lt_size e1
        · obtain ⟨_, e2, _⟩ := h2; exact q ▸ Heap.lt_size e2
      rw [upd_ne (Nat.ne_of_lt hb2)]
      exact (hf b hb).1
  done := by
    intro X hP hw hK hc i pins s σ H E I hf st hg
    subst hP hw hK
    obtain ⟨hz, hTI, ⟨a, b, hTO⟩, h1, h2, l1, l2⟩ := st
    have he : i = x.cps.size ∨ i = y.cps.size := by
      rcases hg with q | q
      · exact .inl (by omega)
      · exact .inr (by omega)
    refine wpAny_pyNext_zipD2_end D (Draws.text (prog := X.prog) (w := X.w) (A := X.A.in1) (I.ok.hd hc) i1 x t) (Draws.text (prog := X.prog) (w := X.w) (A := X.A.in1) (I.ok.hd hc) i2 y u) (i := i) hz hTI hTO h1 h2 l1 l2 he fun h3 tk hk => ⟨rfl, ?_⟩
    exact I.turnedL (t' := tk) (ch := [z, TI, TO, i1, i2]) (fun b o hb q => hk b o (fun q2 => hb (by simp [q2])) (fun q2 => hb (by simp [q2])) (fun q2 => hb (by simp [q2])) (fun q2 => hb (by simp [q2])) q) hf
  self := fun A i s Q E st h => wpAny_pyIter_zip st.1 h
def iZipS (ta : TA) : TI := fun σ H R => ta σ H fun vs H1 => ∃ x y : Str, vs = [.str x, .str y] ∧ R (ItzS x y) H1
theorem pi_zipS {X : Cx} {e e2 : Expr} {ta : TA} {p pos tpos : Pos} {elts : List Expr} {kk : Nat} (hg : Gl X "zip") (hm : X.mg "zip" = none) (ha : PA X [e, e2] ta)
    (hs : starEach [e, e2] X.env = (false, eval e X.env) :: starEach [e2] X.env := by rfl) (hpl : (backTo pos (starEach [e2] X.env)).any (·.1) = false := by rfl) :
    PI X (.Tuple elts kk tpos) (.Call (.Name "zip" p) [e, e2] [] pos) (iZipS ta) := by
  refine ⟨fun pins s σ H R I h => ?_⟩
  refine Call_ (ld_blt I hg hm PyProof.Rows.boot_zip (PyProof.Rows.callWith_type1 (thn (ha.run pos pins s σ H _ I h) ?_) hs hpl))
  rintro us s1 ⟨vs, H1, I1, r1, x, y, rfl, q⟩
  cases r1 with
  | cons r rr =>
    cases rr with
    | cons r2 rr =>
      cases rr
      obtain ⟨t, rfl⟩ := r
      obtain ⟨u, rfl⟩ := r2
      refine zip_begins2 (begins_text x t) (begins_text y u) trivial trivial fun h3 hz hTI hTO h1 h2 hsz hk => wpAny_pyIter_zip hz ?_
      have I2 : L2.Inv X pins σ H1 { s1 with heap := h3 } := I1.kept (t' := s1.toks) hk
      refine ⟨s1.heap.objs.size + 4, [s1.heap.objs.size + 4, s1.heap.objs.size + 2, s1.heap.objs.size + 3, s1.heap.objs.size, s1.heap.objs.size + 1], _, _, H1, rfl, I2,
        turn_zipS (x := x) (y := y) (t := t) (u := u) (z := s1.heap.objs.size + 4) (TI := s1.heap.objs.size + 2) (TO := s1.heap.objs.size + 3) (i1 := s1.heap.objs.size) (i2 := s1.heap.objs.size + 1) ⟨?_, ?_, ?_, ?_, ?_, ?_, ?_, ?_, ?_, ?_, ?_, ?_, ?_⟩,
        ⟨hz, hTI, ⟨_, _, hTO⟩, ⟨_, h1, rfl, rfl⟩, ⟨_, h2, rfl, rfl⟩, Nat.zero_le _, Nat.zero_le _⟩, fun c hc => ?_, q⟩
      all_goals try (simp)
      have hle : s1.heap.objs.size ≤ c := by
        rcases (show c = s1.heap.objs.size + 4 ∨ c = s1.heap.objs.size + 2 ∨ c = s1.heap.objs.size + 3 ∨ c = s1.heap.objs.size ∨ c = s1.heap.objs.size + 1 by simpa using hc) with z | z | z | z | z
        · exact z ▸ Nat.le_add_right _ _
        · exact z ▸ Nat.le_add_right _ _
        · exact z ▸ Nat.le_add_right _ _
        · exact z ▸ Nat.le_refl _
        · exact z ▸ Nat.le_add_right _ _
      exact I1.fpOk hle (I1.hok.fresh hle)
theorem walk_zipS {x y : Str} {n : Nat} (hn : n = min x.cps.size y.cps.size) : Walk (ItzS x y) n (fun _ => True) (fun i H v H2 => ∃ T c e, v = .ref T ∧ H T = none ∧ x.cps[i]? = some c ∧ y.cps[i]? = some e ∧ H2 = upd H T (.tup [.str ⟨#[c]⟩, .str ⟨#[e]⟩])) :=
  ⟨fun i H hi _ => by show _ < _ ∧ _ < _; omega, fun H _ => by show _ ≤ n ∨ _ ≤ n; omega, fun i H v H2 _ _ h => h⟩
end SG

/-! Sets of texts: set(tuple of texts), set(text), their lengths, sorted of them. -/
namespace SG
open PySem PySem.Spec PyProof.Rows L2
def txtOf (v : Value) : Str := match v with | .str k _ => k | _ => Str.empty
def TxtE (P : Program) (w : World) (e : Int × Value) : Prop := ∃ k tk, e.2 = Value.str k tk ∧ e.1 = (PySem.strKind P w).hash k
/-- at a: a set of the texts l, each once -/
def SetS (P : Program) (w : World) (h : Heap) (a : Addr) (l : List Str) : Prop :=
  ∃ o es ep t, h.get? a = some o ∧ o.ExactSet ∧ o.data = .set es ep t ∧ (∀ e ∈ es.toList, TxtE P w e) ∧ (es.toList.map fun e => txtOf e.2).Perm l ∧ l.Nodup ∧ l.length < scanBound ∧ t.fits es.size = true ∧ Ris t.place.toList ∧ (w.params.followText "set-order" = true ∨ t.led = true)
theorem perm_size {es : Array (Int × Value)} {l : List Str} (p : (es.toList.map fun e => txtOf e.2).Perm l) : es.size = l.length := by
  rw [← p.length_eq, List.length_map, Array.length_toList]
section
variable {P : Program} {w : World} {A : Around} {E : Value → Shared → Prop} {s : Shared} {a : Addr} {l : List Str}
theorem SetS.at {h h2 : Heap} (R : SetS P w h a l) (k : ∀ o, h.get? a = some o → h2.get? a = some o) : SetS P w h2 a l := by
  obtain ⟨o, es, ep, t, ho, r⟩ := R
  exact ⟨o, es, ep, t, k o ho, r⟩
theorem txt_elems {es : List (Int × Value)} (g : ∀ e ∈ es, TxtE P w e) : ElemsOf (PySem.strKind P w) es := fun e he => by
  obtain ⟨k, tk, h1, h2⟩ := g e he
  exact ⟨⟨k, by rw [h1]; exact strKind_is P w k tk, h2⟩, by rw [h1] <;> rfl⟩
theorem txt_is {e : Int × Value} (g : TxtE P w e) (k : Str) : (PySem.strKind P w).is k e.2 = true ↔ txtOf e.2 = k := by
  obtain ⟨k0, tk, h1, _⟩ := g
  rw [h1, KeyKind.is_eq_decide (strKind_is P w k0 tk) k, decide_eq_true_eq]
  exact eq_comm
theorem SetS.tail {g : Bool → Sem Unit} (hg : ∀ (b : Bool) (s1 : Shared) (Q2 : Unit → Shared → Prop), Q2 () s1 → wpAny (model P w) A (g b) Q2 E s1)
    {o : Obj} {es : Array (Int × Value)} {ep : Nat} {t : SetTable} (ho : s.heap.get? a = some o) (hex : o.ExactSet) (hd : o.data = .set es ep t)
    {es1 : Array (Int × Value)} {t2 : SetTable} {m : List Str} (g1 : ∀ e ∈ es1.toList, TxtE P w e) (pm : (es1.toList.map fun e => txtOf e.2).Perm m) (ndm : m.Nodup) (hb : m.length < scanBound)
    (hf : t2.fits es1.size = true) (hr : Ris t2.place.toList) (hl : w.params.followText "set-order" = true ∨ t2.led = true) {was : Bool} {R : Option Bool → Shared → Prop}
    (hR : ∀ h2, Heap.SameBut a s.heap h2 → SetS P w h2 a m → R (some true) { s with heap := h2 }) :
    wpAny (model P w) A (storeSet a es1 t2 >>= fun _ => if (!was && t2.tooFull) = true then (g (relayAll t2 es1 (SetTable.grown es1.size)).2.2 >>= fun _ =>
      storeSet a (relayAll t2 es1 (SetTable.grown es1.size)).1 (relayAll t2 es1 (SetTable.grown es1.size)).2.1 >>= fun _ => pure (some true)) else pure (some true)) R E s := by
  have z1 := perm_size pm
  have b1 : es1.size < scanBound := by rw [z1]; exact hb
  refine wpAny_bind (wpAny_storeSet_of ho hd ?_ (fits_of_scanBound b1))
  have ho1 := store_at (es' := es1) (t' := t2) ho hd
  have sb1 := Heap.SameBut.update s.heap a (Obj.putSet es1 t2)
  split
  · have q1 := relayAll_perm t2 es1 (SetTable.grown es1.size)
    have q2 := relayAll_fits t2 es1 (SetTable.grown es1.size)
    have q3 := relayAll_ris t2 es1 (SetTable.grown es1.size)
    have q4 := relayAll_led t2 es1 (SetTable.grown es1.size)
    generalize relayAll t2 es1 (SetTable.grown es1.size) = Z at q1 q2 q3 q4 ⊢
    obtain ⟨es2, t3, gave⟩ := Z
    dsimp only at q1 q2 q3 q4 ⊢
    have p2 := (q1.map fun e => txtOf e.2).trans pm
    have b2 : es2.size < scanBound := by rw [perm_size p2]; exact hb
    refine wpAny_bind (hg _ _ _ (wpAny_bind (wpAny_storeSet_of ho1 rfl ?_ (fits_of_scanBound b2))))
    refine wpAny_pure (hR _ (sb1.trans (Heap.SameBut.update _ a _)) ⟨_, es2, _, t3, store_at ho1 rfl, hex, rfl, fun e he => g1 e (q1.mem_iff.mp he), p2, ndm, hb, q2, q3, hl.imp id fun z => by rw [q4]; exact z⟩)
  · exact wpAny_pure (hR _ sb1 ⟨_, es1, _, t2, ho1, hex, rfl, g1, pm, ndm, hb, hf, hr, hl⟩)
/-- one text more, if it isn't there -/
theorem SetS.put {k : Str} {tk : Tok} {Q : Bool → Shared → Prop} (R : SetS P w s.heap a l) (room : l.length + 1 < scanBound)
    (hQ : ∀ h2, Heap.SameBut a s.heap h2 → SetS P w h2 a (if k ∈ l then l else k :: l) → Q (!decide (k ∈ l)) { s with heap := h2 }) :
    wpAny (model P w) A (setAddHashed a (.str k tk) ((PySem.strKind P w).hash k)) Q E s := by
  obtain ⟨o, es, ep, t, ho, hex, hd, g, pm, nd, hb, hf, hr, hl⟩ := R
  have sz := perm_size pm
  have hbe : es.size < scanBound := by rw [sz]; exact hb
  have hkey : (PySem.strKind P w).is k (.str k tk) = true := strKind_is P w k tk
  have hsc : (Value.str k tk).scannable = true := rfl
  have hel := txt_elems g
  unfold setAddHashed setAddHashedIn
  refine wpAny_holding (wpAny_bind (wpAny_setState_of ho hd hf ?_))
  dsimp only
  rw [byScan_of hsc hbe hel]
  simp only [↓reduceIte]
  unfold setAddByScan
  refine wpAny_bind (wpAny_bind (wpAny_rule (wpAny_bind (wpAny_setScan_of hkey ho hd hf hel ?_))))
  cases hfi : List.findIdx? (fun e => (PySem.strKind P w).is k e.2) es.toList with
  | some j =>
    dsimp only
    obtain ⟨hj, pj, _⟩ := List.findIdx?_eq_some_iff_getElem.mp hfi
    have hk : k ∈ l := pm.mem_iff.mp (List.mem_map.mpr ⟨es.toList[j], List.getElem_mem hj, (txt_is (g _ (List.getElem_mem hj)) k).mp pj⟩)
    have q := hQ s.heap (Heap.SameBut.refl a s.heap) (by rw [if_pos hk]; exact ⟨o, es, ep, t, ho, hex, hd, g, pm, nd, hb, hf, hr, hl⟩)
    rw [decide_eq_true hk] at q
    exact wpAny_pure (wpAny_pure q)
  | none =>
    dsimp only
    have hk : k ∉ l := fun z => by
      obtain ⟨e, he, q⟩ := List.mem_map.mp (pm.mem_iff.mpr z)
      have c := List.findIdx?_eq_none_iff.mp hfi e he
      rw [(txt_is (g e he) k).mpr q] at c
      cases c
    have hgw : ∀ (b : Bool) {s1 : Shared} {Q2 : Unit → Shared → Prop}, Q2 () s1 → wpAny (model P w) A (match b with | true => rule "set.scan.the-table-gave-way" | false => pure ()) Q2 E s1 :=
      fun b s1 Q2 q => by cases b <;> first | exact wpAny_pure q | exact wpAny_rule q
    have q1 := layNew_perm t es ((PySem.strKind P w).hash k) (.str k tk)
    have q2 := layNew_fits t es ((PySem.strKind P w).hash k) (.str k tk)
    have q3 := layNew_ris t es ((PySem.strKind P w).hash k) (.str k tk) hr
    have q4 := layNew_led t es ((PySem.strKind P w).hash k) (.str k tk)
    generalize layNew t es ((PySem.strKind P w).hash k) (.str k tk) = Z at q1 q2 q3 q4 ⊢
    obtain ⟨es1, t1, was, gave⟩ := Z
    dsimp only at q1 q2 q3 q4 ⊢
    rw [Array.toList_push] at q1
    have pc := q1.trans (List.perm_append_singleton _ _)
    have pk : (es1.toList.map fun e => txtOf e.2).Perm (k :: l) := by
      have z := pc.map fun e => txtOf e.2
      exact z.trans (List.Perm.cons k pm)
    have g1 : ∀ e ∈ es1.toList, TxtE P w e := fun e he => by
      rcases List.mem_cons.mp (pc.mem_iff.mp he) with z | z
      · rw [z]; exact ⟨k, tk, rfl, rfl⟩
      · exact g e z
    have nd1 : (k :: l).Nodup := List.nodup_cons.mpr ⟨hk, nd⟩
    have hled : w.params.followText "set-order" = true ∨ t1.led = true := hl.imp id fun z => by rw [q4]; exact z
    have fin : ∀ h2, Heap.SameBut a s.heap h2 → SetS P w h2 a (k :: l) → Q true { s with heap := h2 } := fun h2 sb r => by
      have q := hQ h2 sb (by rw [if_neg hk]; exact r)
      rw [decide_eq_false hk] at q
      exact q
    refine wpAny_bind (hgw _ ?_)
    split
    · refine wpAny_bind ?_
      rw [hashByValue_scannable 8 hsc]
      refine wpAny_pure ?_
      refine SetS.tail ?_ ho hex hd g1 pk nd1 room ?_ ?_ ?_ fun h2 sb r => ?_
      · intro b s1 Q2 q; cases b <;> first | exact wpAny_pure q | exact wpAny_rule q
      · first | (split <;> first | exact q2 | exact SetTable.fits_plain_off q2) | exact q2
      · first | (split <;> exact q3) | exact q3
      · first | (split <;> exact hled) | exact hled
      · exact wpAny_pure (fin h2 sb r)
    · refine wpAny_bind (wpAny_pure ?_)
      simp only [↓reduceIte]
      refine SetS.tail ?_ ho hex hd g1 pk nd1 room q2 q3 hled fun h2 sb r => ?_
      · intro b s1 Q2 q; cases b <;> first | exact wpAny_pure q | exact wpAny_rule q
      · exact wpAny_pure (fin h2 sb r)
theorem SetS.fresh {h : Heap} : SetS P w (h.push { cls := .type "set", dict := none, data := .set #[] 0 (.fresh 0 0 (!w.params.followText "set-order")) }) h.objs.size [] :=
  ⟨_, #[], 0, _, Heap.get?_push_size _ rfl, ⟨rfl, rfl, rfl⟩, rfl, (fun e he => by simp at he), by simp, by simp, by decide, by rfl, List.Pairwise.nil, by
    cases h : w.params.followText "set-order"
    · exact .inr rfl
    · exact .inl rfl⟩
end
/-- the texts met so far, the last one first -/
def once (xs : List Str) : List Str := xs.foldl (fun l k => if k ∈ l then l else k :: l) []
theorem once_snoc (xs : List Str) (k : Str) : once (xs ++ [k]) = if k ∈ once xs then once xs else k :: once xs := by
  unfold once
  rw [List.foldl_append]
  rfl
theorem once_len : ∀ xs : List Str, (once xs).length ≤ xs.length := fun xs => by
  rcases List.eq_nil_or_concat xs with rfl | ⟨ys, k, rfl⟩
  · exact Nat.le_refl _
  · rw [List.concat_eq_append, once_snoc, List.length_append]
    have := once_len ys
    split
    · omega
    · rw [List.length_cons, List.length_singleton]; omega
termination_by xs => xs.length
decreasing_by simp_all
section
variable {prog : Program} {w : World} {A : Around} {R : Result → Shared → Prop} {I : Addr} {fp wr : List Addr} {G : Array GenState → Array GenState → Prop} {n : Nat} {Pv : Nat → Value → Prop} {St : Nat → Shared → Prop}
theorem upd_loopS (W : WalksS prog w A.in1 I fp wr G n Pv St) (a : Addr) (af : a ∉ fp) (xs : List Str) (hn : xs.length = n) (hb : n + 1 < scanBound) (hv : ∀ i v, Pv i v → ∃ t, v = .str (xs.getD i Str.empty) t) :
    ∀ (k i : Nat) (s : Shared), n - i = k → i ≤ n → St i s → SetS prog w s.heap a (once (xs.take i)) →
      (∀ s2, Moved (a :: wr) G s s2 → SetS prog w s2.heap a (once xs) → R (.ok (.ret .none)) s2) → codeAny (model prog w) A (.builtin "set.update.loop" ⟨[.ref a, .ref I], []⟩) R s := by
  have aw : a ∉ wr := fun h => af (W.sub _ h)
  have more : ∀ b ∈ wr, b ∈ a :: wr := fun b hb => List.mem_cons_of_mem _ hb
  intro k
  induction k with
  | zero =>
    intro i s hk hi hst hS hR
    obtain rfl : i = n := by omega
    rw [← hn, List.take_length] at hS
    refine codeAny_builtin PyProof.Rows.F.entry_set_update_loop ?_
    rw [Around.under_plainId PyProof.Rows.F.plain_set_update_loop _]
    refine wpAny_bind (W.done s _ _ hst fun s2 hm => ?_)
    exact wpAny_pure (hR s2 (hm.mono more) (hS.at fun o ho => hm.heap a _ aw ho))
  | succ k ih =>
    intro i s hk hi hst hS hR
    have lt : i < n := by omega
    refine codeAny_builtin PyProof.Rows.F.entry_set_update_loop ?_
    rw [Around.under_plainId PyProof.Rows.F.plain_set_update_loop _]
    refine wpAny_bind (W.item i s _ _ lt hst fun v s2 hP hst2 hm => ?_)
    obtain ⟨t, rfl⟩ := hv i v hP
    have hS2 : SetS prog w s2.heap a (once (xs.take i)) := hS.at fun o ho => hm.heap a _ aw ho
    show wpAny _ A.in1 (holding [Value.str (xs.getD i Str.empty) t] (setAdd a (.str (xs.getD i Str.empty) t)) >>= _) _ _ s2
    refine wpAny_bind (wpAny_holding ?_)
    unfold setAdd
    refine wpAny_holding (wpAny_bind ((PySem.strKind prog w).pyHash (k := xs.getD i Str.empty) (strKind_is _ _ _ _) ?_))
    have room : (once (xs.take i)).length + 1 < scanBound := by
      have := once_len (xs.take i)
      rw [List.length_take] at this
      omega
    refine SetS.put (s := { s2 with toks := s2.toks + 1 }) hS2 room fun h3 sb S3 => ?_
    have e : once (xs.take (i + 1)) = if xs.getD i Str.empty ∈ once (xs.take i) then once (xs.take i) else xs.getD i Str.empty :: once (xs.take i) := by
      have hi2 : i < xs.length := by omega
      rw [List.take_succ_eq_append_getElem hi2, once_snoc, List.getD_eq_getElem?_getD, List.getElem?_eq_getElem hi2]
      rfl
    rw [← e] at S3
    refine wpAny_pure ⟨plainId_quiet PyProof.Rows.F.plain_set_update_loop _, ih (i + 1) _ (by omega) lt (W.frame _ s2 _ _ hst2 (Nat.le_succ _) fun b hb o z => ?_) S3 fun s4 hm4 S4 => ?_⟩
    · rw [sb.2 b (fun h : b = a => af (h ▸ hb))]; exact z
    · refine hR s4 (Moved.trans W.gtrans ((hm.mono more).then_heap (Nat.le_succ _) fun b o hb z => ?_) hm4) S4
      rw [sb.2 b (fun h : b = a => hb (by rw [h]; exact List.mem_cons_self))]; exact z
end
abbrev noneSet (w : World) : Obj := { cls := .type "set", dict := none, data := .set #[] 0 (.fresh 0 0 (!w.params.followText "set-order")) }
section
variable {P : Program} {w : World} {A : Around} {E : Value → Shared → Prop} {s : Shared}
theorem new_set1 (x : Value) {Q1 : Value → Shared → Prop} (h : Q1 (.ref s.heap.objs.size) { s with heap := s.heap.push { cls := .type "set", dict := none, data := .set #[] 0 (.fresh 0 0 (!w.params.followText "set-order")) } }) :
    codeAny (model P w) A (.call (.builtin "set.__new__") ⟨[.type "set", x], []⟩) (wants Q1 E) s := by
  refine codeAny_of_tree ?_
  refine wpAny_bind (wpAny_of_eq (PySem.F.newCall_set_1 x) (wpAny_pure ⟨plainId_quiet PySem.F.plain_set_new _, codeAny_builtin PySem.F.entry_set_new ?_⟩))
  rw [Around.under_plainId PySem.F.plain_set_new _]
  unfold Builtin.«set.__new__» Builtin.Frozenset.newClass
  have hsub := sub_set_self
  obtain ⟨hp, g, d, tk, os⟩ := s
  dsimp only
  wp_walk
  refine wpAny_askSetting (wpAny_pure ?_)
  dsimp only
  simp only [newObj]
  exact wpAny_bind (wpAny_alloc (wpAny_pure (wpAny_pure h)))
/-- set(x), where x is iterated into texts -/
theorem set_of {x : Value} {xs : List Str} {Q : Value → Shared → Prop}
    (hin : ∀ {R : Fin → Shared → Prop} {E2 : Value → Shared → Prop} {A2 : Around}, A2.handled = A.handled →
      (∀ h2 tk, SetS P w h2 s.heap.objs.size (once xs) → (∀ b o, b < s.heap.objs.size → s.heap.get? b = some o → h2.get? b = some o) → R (.done (.ret .none)) { s with heap := h2, toks := tk }) →
      wpAny (model P w) A2 (Builtin.«set.__init__» ⟨[.ref s.heap.objs.size, x], []⟩) R E2 { s with heap := s.heap.push (noneSet w) })
    (h : ∀ h2 tk, SetS P w h2 s.heap.objs.size (once xs) → (∀ b o, b < s.heap.objs.size → s.heap.get? b = some o → h2.get? b = some o) → Q (.ref s.heap.objs.size) { s with heap := h2, toks := tk }) :
    wpAny (model P w) A (call (.type "set") [x]) Q E s := by
  obtain ⟨c, tl, hmro⟩ := PySem.F.called_set.mro
  have hmade := PySem.F.called_set.made
  have hsub := PySem.F.called_set.sub
  refine wpAny_call (codeAny_of_tree ?_)
  show wpAny _ _ (callAny (.type "set") _) _ _ _
  refine wpAny_pure ⟨Code.quiet_builtin _ (by decide +kernel), codeAny_builtin PySem.F.entry_type_call ?_⟩
  rw [Around.under_plain (weight_type_call_type "set" [x] []) rfl]
  have h1 := PySem.F.called_set.notType
  have h2 := PySem.F.called_set.canCreate
  have hct := PySem.F.typeCall_set_1 x
  repeat (any_goals (first | assumption | wp_step))
  refine codeAny_mono (new_set1 (P := P) (w := w) x (E := E) (Q1 := fun obj s1 => obj = .ref s.heap.objs.size ∧ s1 = { s with heap := s.heap.push { cls := .type "set", dict := none, data := .set #[] 0 (.fresh 0 0 (!w.params.followText "set-order")) } }) ⟨rfl, rfl⟩) fun r s1 hr => ?_
  cases r with
  | error e => exact hr
  | ok fl =>
    cases fl with
    | next => exact hr.elim
    | brk => exact hr.elim
    | cont => exact hr.elim
    | ret obj =>
      obtain ⟨rfl, rfl⟩ := hr
      have hS : (s.heap.push { cls := .type "set", dict := none, data := .set #[] 0 (.fresh 0 0 (!w.params.followText "set-order")) }).get? s.heap.objs.size = some { cls := .type "set", dict := none, data := .set #[] 0 (.fresh 0 0 (!w.params.followText "set-order")) } := Heap.get?_push_size _ rfl
      have hT : Shared.TypeIs { s with heap := s.heap.push { cls := .type "set", dict := none, data := .set #[] 0 (.fresh 0 0 (!w.params.followText "set-order")) } } (.ref s.heap.objs.size) "set" := ⟨_, hS, rfl⟩
      have hli := PySem.F.called_set.init.lookup
      have hbi := PySem.F.called_set.init.bind (.ref s.heap.objs.size)
      repeat (any_goals (first | assumption | wp_step))
      refine codeAny_mono (codeAny_call_builtin (R := wants (fun r s2 => r = .none ∧ ∃ h3 tk, s2 = { s with heap := h3, toks := tk } ∧ SetS P w h3 s.heap.objs.size (once xs) ∧ (∀ b o, b < s.heap.objs.size → s.heap.get? b = some o → h3.get? b = some o)) E) PySem.F.called_set.init.plain PySem.F.entry_set_init (check_set_init_1 hT ?_)) fun r2 s2 hr2 => ?_
      · exact hin (by first | rfl | simp) fun h3 tk S3 k3 => ⟨rfl, h3, tk, rfl, S3, k3⟩
      · cases r2 with
        | error e => exact hr2
        | ok fl2 =>
          cases fl2 with
          | next => exact hr2.elim
          | brk => exact hr2.elim
          | cont => exact hr2.elim
          | ret r =>
            obtain ⟨rfl, h3, tk, rfl, S3, k3⟩ := hr2
            repeat (any_goals (first | assumption | wp_step))
            exact h _ _ S3 k3
end
end SG

namespace SG
open PySem PySem.Spec PyProof.Rows L2
theorem sub_str_setT : isSubtype (.type "str") (.type "set") = pure false := by
  rw [isSubtype_type]
  kernel_rfl
theorem sub_str_frozenT : isSubtype (.type "str") (.type "frozenset") = pure false := by
  rw [isSubtype_type]
  kernel_rfl
section
variable {P : Program} {w : World} {A : Around} {E : Value → Shared → Prop} {s : Shared}
set_option maxHeartbeats 3200000 in
theorem init_tup {l : Addr} {items : Array Value} {xs : List Str} (hh : A.handled = none) (hl : s.heap.IsTuple l items) (hi : StrsAre items.toList xs) (hb : xs.length + 1 < scanBound) {R : Fin → Shared → Prop} {E2 : Value → Shared → Prop}
    (q : ∀ h2 tk, SetS P w h2 s.heap.objs.size (once xs) → (∀ b o, b < s.heap.objs.size → s.heap.get? b = some o → h2.get? b = some o) → R (.done (.ret .none)) { s with heap := h2, toks := tk }) :
    wpAny (model P w) A (Builtin.«set.__init__» ⟨[.ref s.heap.objs.size, .ref l], []⟩) R E2 { s with heap := s.heap.push (noneSet w) } := by
  have hS : (s.heap.push (noneSet w)).get? s.heap.objs.size = some { cls := .type "set", dict := none, data := .set #[] 0 (.fresh 0 0 (!w.params.followText "set-order")) } := Heap.get?_push_size _ rfl
  have hT : Shared.TypeIs { s with heap := s.heap.push (noneSet w) } (.ref s.heap.objs.size) "set" := ⟨_, hS, rfl⟩
  have S0 : SetS P w (s.heap.push (noneSet w)) s.heap.objs.size [] := SetS.fresh
  have hz : (s.heap.push (noneSet w)).objs.size = s.heap.objs.size + 1 := Heap.size_push ..
  have k0 : ∀ b o, s.heap.get? b = some o → (s.heap.push (noneSet w)).get? b = some o := fun b o e => Heap.get?_push_of_some _ e
  generalize s.heap.push (noneSet w) = h0 at hS hT S0 hz k0 ⊢
  obtain ⟨⟨c1, c2, c3, c4⟩, ho, hc, n1, hd⟩ := hl
  dsimp only at hc hd
  subst hc hd
  have lt : l < s.heap.objs.size := Heap.lt_size ho
  have ho1 := k0 _ _ ho
  have f1 := PySem.F.sub_tuple_set
  have f2 := PySem.F.sub_tuple_frozenset
  have f3 : (Value.type "tuple" == Value.type "dict") = false := by decide
  have hl1 : h0.IsTuple l items := ⟨_, ho1, rfl, n1, rfl⟩
  unfold Builtin.«set.__init__» noKeywords Builtin.Frozenset.updateFrom
  generalize hPI : pyIter = PI
  wp_walk
  subst hPI
  refine wpAny_pyIter_tuple hl1 ?_
  refine wpAny_bind (wpAny_runValue ?_)
  have lt0 : s.heap.objs.size < h0.objs.size := by rw [hz]; exact Nat.lt_succ_self _
  have hI : l ≠ h0.objs.size := Nat.ne_of_lt (Nat.lt_trans lt lt0)
  have hf : s.heap.objs.size ∉ [h0.objs.size, l] := by
    simp only [List.mem_cons, List.not_mem_nil, or_false, not_or]
    exact ⟨Nat.ne_of_lt lt0, Nat.ne_of_gt lt⟩
  have hsz : xs.length = items.size := by rw [← StrsAre.len_eq hi, Array.length_toList]
  have hv : ∀ (i : Nat) (v : Value), items[i]? = some v → ∃ t, v = .str (xs.getD i Str.empty) t := fun i v e => SS.strs_at hi i v (by rw [Array.getElem?_toList]; exact e)
  have h3 : A.in1.handled = none := by simpa using hh
  refine upd_loopS ((Walks.tuple h3 _ l hI items).toS) s.heap.objs.size hf xs hsz (by rw [← hsz]; exact hb) hv (items.size - 0) 0 { s with heap := h0.push { cls := .type "tuple_iterator", data := .fields #[.ref l, .int 0 0] } } (by omega) (Nat.zero_le _) ⟨⟨_, Heap.get?_push_size _ rfl, rfl, rfl⟩, hl1.push _⟩ (SetS.at (h2 := h0.push { cls := .type "tuple_iterator", data := .fields #[.ref l, .int 0 0] }) S0 fun o e => Heap.get?_push_of_some _ e) fun s2 hm S2 => ?_
  obtain ⟨h2, g2, d2, t2, o2⟩ := s2
  obtain rfl : g2 = s.gens := hm.gens
  obtain rfl : d2 = s.drawn := hm.drawn
  obtain rfl : o2 = s.os := hm.os
  refine wpAny_pure (wpAny_pure (q h2 t2 S2 fun b o hb e => ?_))
  refine hm.heap b o ?_ (Heap.get?_push_of_some _ (k0 _ _ e))
  simp only [List.mem_cons, List.not_mem_nil, or_false, not_or]
  exact ⟨Nat.ne_of_lt hb, Nat.ne_of_lt (Nat.lt_trans hb lt0)⟩
set_option maxHeartbeats 3200000 in
theorem init_txt {z : Str} {tz : Tok} (hh : A.handled = none) (hb : z.cps.size + 1 < scanBound) {R : Fin → Shared → Prop} {E2 : Value → Shared → Prop}
    (q : ∀ h2 tk, SetS P w h2 s.heap.objs.size (once (z.cps.toList.map fun g => (⟨#[g]⟩ : Str))) → (∀ b o, b < s.heap.objs.size → s.heap.get? b = some o → h2.get? b = some o) → R (.done (.ret .none)) { s with heap := h2, toks := tk }) :
    wpAny (model P w) A (Builtin.«set.__init__» ⟨[.ref s.heap.objs.size, .str z tz], []⟩) R E2 { s with heap := s.heap.push (noneSet w) } := by
  have hS : (s.heap.push (noneSet w)).get? s.heap.objs.size = some { cls := .type "set", dict := none, data := .set #[] 0 (.fresh 0 0 (!w.params.followText "set-order")) } := Heap.get?_push_size _ rfl
  have hT : Shared.TypeIs { s with heap := s.heap.push (noneSet w) } (.ref s.heap.objs.size) "set" := ⟨_, hS, rfl⟩
  have S0 : SetS P w (s.heap.push (noneSet w)) s.heap.objs.size [] := SetS.fresh
  have hz : (s.heap.push (noneSet w)).objs.size = s.heap.objs.size + 1 := Heap.size_push ..
  have k0 : ∀ b o, s.heap.get? b = some o → (s.heap.push (noneSet w)).get? b = some o := fun b o e => Heap.get?_push_of_some _ e
  generalize s.heap.push (noneSet w) = h0 at hS hT S0 hz k0 ⊢
  have f1 := sub_str_setT
  have f2 := sub_str_frozenT
  have f3 : (Value.type "str" == Value.type "dict") = false := by decide
  unfold Builtin.«set.__init__» noKeywords Builtin.Frozenset.updateFrom
  generalize hPI : pyIter = PI
  wp_walk
  subst hPI
  refine wpAny_pyIter_strU ?_
  refine wpAny_bind (wpAny_runValue ?_)
  have lt0 : s.heap.objs.size < h0.objs.size := by rw [hz]; exact Nat.lt_succ_self _
  have hf : s.heap.objs.size ∉ [h0.objs.size] := by
    simp only [List.mem_cons, List.not_mem_nil, or_false]
    exact Nat.ne_of_lt lt0
  have hsz : (z.cps.toList.map fun g => (⟨#[g]⟩ : Str)).length = z.cps.size := by rw [List.length_map, Array.length_toList]
  have hb2 : z.cps.size + 1 < scanBound := hb
  have hv : ∀ (i : Nat) (v : Value), SignAt z i v → ∃ t, v = .str ((z.cps.toList.map fun g => (⟨#[g]⟩ : Str)).getD i Str.empty) t := by
    rintro i v ⟨c, u, hc, rfl⟩
    refine ⟨u, ?_⟩
    rw [List.getD_eq_getElem?_getD, List.getElem?_map, Array.getElem?_toList, hc]
    rfl
  have h3 : A.in1.handled = none := by simpa using hh
  have fin : ∀ s2 : Shared, Moved (s.heap.objs.size :: [h0.objs.size]) (fun a b => b = a) { s with heap := h0.push { cls := .type (strIterType z), data := .fields #[.str z tz, .int 0 0] } } s2 → SetS P w s2.heap s.heap.objs.size (once (z.cps.toList.map fun g => (⟨#[g]⟩ : Str))) → R (.done (.ret .none)) s2 := by
    intro s2 hm S2
    obtain ⟨h2, g2, d2, t2, o2⟩ := s2
    obtain rfl : g2 = s.gens := hm.gens
    obtain rfl : d2 = s.drawn := hm.drawn
    obtain rfl : o2 = s.os := hm.os
    refine q h2 t2 S2 fun b o hb e => hm.heap b o ?_ (Heap.get?_push_of_some _ (k0 _ _ e))
    simp only [List.mem_cons, List.not_mem_nil, or_false, not_or]
    exact ⟨Nat.ne_of_lt hb, Nat.ne_of_lt (Nat.lt_trans hb lt0)⟩
  have go : ∀ (ty : String), strIterType z = ty → Walks P w A.in1 h0.objs.size [h0.objs.size] [h0.objs.size] z.cps.size (SignAt z) (fun i h => h.IsStrIter h0.objs.size ty z tz i) →
      ∀ K : Result → Shared → Prop, (∀ s2, R (.done (.ret .none)) s2 → K (.ok (.ret .none)) s2) → codeAny (model P w) A (.builtin "set.update.loop" ⟨[.ref s.heap.objs.size, .ref h0.objs.size], []⟩) K { s with heap := h0.push { cls := .type (strIterType z), data := .fields #[.str z tz, .int 0 0] } } := by
    intro ty e W K hK
    refine upd_loopS W.toS s.heap.objs.size hf _ hsz hb2 hv (z.cps.size - 0) 0 { s with heap := h0.push { cls := .type (strIterType z), data := .fields #[.str z tz, .int 0 0] } } (by omega) (Nat.zero_le _) ⟨_, Heap.get?_push_size _ rfl, e ▸ rfl, rfl⟩ (SetS.at (h2 := h0.push { cls := .type (strIterType z), data := .fields #[.str z tz, .int 0 0] }) S0 fun o e => Heap.get?_push_of_some _ e) fun s2 hm S2 => ?_
    exact hK s2 (fin s2 hm S2)
  cases ha : z.cps.all (· < 128) with
  | true => exact go "str_ascii_iterator" (by unfold strIterType; rw [ha]; rfl) (Walks.strAscii h3 _ z tz) _ fun s2 r2 => wpAny_pure (wpAny_pure r2)
  | false => exact go "str_iterator" (by unfold strIterType; rw [ha]; rfl) (Walks.strWide h3 _ z tz) _ fun s2 r2 => wpAny_pure (wpAny_pure r2)
end

/-! ### the rules -/
/-- the set of the texts l, at a -/
def SetO2 (P : Program) (w : World) (a : Addr) (l : List Str) : HO := .ext fun h => SetS P w h a l
section
variable {X : Cx}
theorem setO2_new {P : Program} {w : World} {H : Hp} {h : Heap} {a : Addr} {l : List Str} (R : SetS P w h a l) : ObjOk P w H h a (SetO2 P w a l) := by
  have ⟨o, _, _, _, ho, _⟩ := R
  exact ⟨R, ⟨o, ho⟩, fun h1 h2 p k => SetS.at p k⟩
def signs (z : Str) : List Str := z.cps.toList.map fun g => ⟨#[g]⟩
/-- set(x), x a tuple of texts, or a text -/
def rSetTx (K : PySem.W.Frag) (P : Program) (w : World) : List V → Hp → VK → Prop := fun vs H Q =>
  (∃ (p : Addr) (xs : List Str), vs = [.ref p] ∧ SqT K H p (xs.map V.str) ∧ xs.length ≤ 1000 ∧ ∀ a : Addr, H a = none → Q (.ref a) (upd H a (SetO2 P w a (once xs)))) ∨
  (∃ z : Str, vs = [.str z] ∧ z.length ≤ 1000 ∧ ∀ a : Addr, H a = none → Q (.ref a) (upd H a (SetO2 P w a (once (signs z)))))
theorem few_scan {n : Nat} (h : n ≤ 1000) : n + 1 < scanBound := by
  unfold scanBound
  omega
theorem k_setTx {K : PySem.W.Frag} {P : Program} {w : World} (hc : X.calm = true) (e : X.K = K := by rfl) (eP : X.prog = P := by rfl) (ew : X.w = w := by rfl) : CallR X (.type "set") (rSetTx K P w) := by
  subst e eP ew
  intro pins s σ H vs us Q I r h
  rcases h with ⟨p, xs, rfl, hp, hl, q⟩ | ⟨z, rfl, hl, q⟩
  · rw [Vals.ref1 r]
    obtain ⟨its, rv, pl, hz⟩ := I.tuple hp
    refine set_of (xs := xs) (fun hA hR => init_tup (by rw [hA]; exact I.ok.hd hc) pl (by simpa using strsAre_of rv) (few_scan hl) hR) fun h2 tk S2 k2 => ?_
    exact ⟨.ref _, upd H s.heap.objs.size (SetO2 X.prog X.w s.heap.objs.size (once xs)), I.laid (t' := tk) (fun b u e => k2 b u (Heap.lt_size e) e) (Nat.le_refl _) (setO2_new S2), rfl, q _ (I.hok.fresh (Nat.le_refl _))⟩
  · cases r with
    | cons r rr =>
      cases rr
      obtain ⟨t, rfl⟩ := r
      refine set_of (xs := signs z) (fun hA hR => init_txt (by rw [hA]; exact I.ok.hd hc) (few_scan hl) hR) fun h2 tk S2 k2 => ?_
      exact ⟨.ref _, upd H s.heap.objs.size (SetO2 X.prog X.w s.heap.objs.size (once (signs z))), I.laid (t' := tk) (fun b u e => k2 b u (Heap.lt_size e) e) (Nat.le_refl _) (setO2_new S2), rfl, q _ (I.hok.fresh (Nat.le_refl _))⟩
/-- len(a set of texts) -/
def rLenTx (P : Program) (w : World) : List V → Hp → VK → Prop := fun vs H Q => ∃ (a : Addr) (l : List Str), vs = [.ref a] ∧ H a = some (SetO2 P w a l) ∧ Q (.int l.length) H
theorem k_lenTx {P : Program} {w : World} (eP : X.prog = P := by rfl) (ew : X.w = w := by rfl) : CallR X (.builtin "len") (rLenTx P w) := by
  subst eP ew
  intro pins s σ H vs us Q I r h
  obtain ⟨a, l, rfl, ha, q⟩ := h
  rw [Vals.ref1 r]
  obtain ⟨o, es, ep, t, ho, hex, hd, g, pm, nd, hb, hf, _⟩ : SetS X.prog X.w s.heap a l := (I.hok a _ ha).1
  have z := perm_size pm
  refine call_len_set ho hex hd hf (by unfold scanBound at hb; rw [z]; omega) ⟨.int l.length, H, I.tok _, ⟨_, by rw [z]⟩, q⟩
theorem strs_of : ∀ (l : List Value), (∀ v ∈ l, ∃ k tk, v = Value.str k tk) → StrsAre l (l.map txtOf)
  | [], _ => .nil
  | v :: l, h => by
    obtain ⟨k, tk, rfl⟩ := h v List.mem_cons_self
    exact .cons k tk (strs_of l fun u hu => h u (List.mem_cons_of_mem _ hu))
/-- sorted(a set of texts) -/
def rSortTx (P : Program) (w : World) : List V → Hp → VK → Prop := fun vs H Q => ∃ (a : Addr) (l : List Str), vs = [.ref a] ∧ H a = some (SetO2 P w a l) ∧
  ∀ (m : List Str) (p : Addr), m.Perm l → sortedS m = true → H p = none → Q (.ref p) (upd H p (.lst (m.map V.str)))
theorem k_sortTx {P : Program} {w : World} (hc : X.calm = true) (eP : X.prog = P := by rfl) (ew : X.w = w := by rfl) : CallR X (.builtin "sorted") (rSortTx P w) := by
  subst eP ew
  intro pins s σ H vs us Q I r h
  obtain ⟨a, l, rfl, ha, q⟩ := h
  rw [Vals.ref1 r]
  obtain ⟨o, es, ep, t, ho, hex, hd, g, pm, nd, hb, hf, hr, hl⟩ : SetS X.prog X.w s.heap a l := (I.hok a _ ha).1
  have sz := perm_size pm
  have hbe : es.size < scanBound := by rw [sz]; exact hb
  refine Calls.call_function_entry kind_sorted plain_sorted entry_sorted (args_sorted1 _) ?_
  unfold Builtin.«sorted»
  refine wpAny_bind (m := checkCount "sorted" 1 1 _) (wpAny_pure ?_)
  refine wpAny_bind (collect_set (A := X.A.in1) (I.ok.hd hc) ⟨o, ho, hex.1, hd⟩ hf hbe hr hl fun s1 ws k1 hz g1 o1 p1 => ?_)
  have hS : StrsAre ws (ws.map txtOf) := strs_of ws fun v hv => by
    obtain ⟨e, he, q⟩ := List.mem_map.mp (p1.mem_iff.mp hv)
    obtain ⟨k, tk, h1, _⟩ := g e he
    exact ⟨k, tk, by rw [← q]; exact h1⟩
  have p2 : (ws.map txtOf).Perm l := by
    have z := p1.map txtOf
    rw [List.map_map] at z
    exact z.trans pm
  have wl : ws.length ≤ sizeLine := by
    have : ws.length = l.length := by rw [← p2.length_eq, List.length_map]
    rw [this, sizeLine_eq]
    unfold scanBound at hb
    omega
  refine wpAny_bind (wpAny_newList ?_ wl)
  have hoL : (s1.heap.push (seqObj "list" ws.toArray 0)).get? s1.heap.objs.size = some (seqObj "list" ws.toArray 0) := Heap.get?_push_size _ rfl
  refine wpAny_bind (wpAny_holding (wpAny_call_entry slot_list_sort ⟨_, hoL, rfl⟩ entry_list_sort (list_sort_treeKAny strKind_oneLt hoL hS.keysOf (fun v1 v2 rest e => keyKind_strs (by rw [← e]; exact hS)) wl fun st hp hs => ⟨_, rfl, ?_⟩) (args_list_sort _)))
  obtain ⟨m, h1, h2, h3⟩ := sorted_out_str hS hp hs
  obtain ⟨c, hc2⟩ := sortedHeap_at (vs := ws) (out := (arrOf st).map (·.2)) hoL
  have lt : s.heap.objs.size ≤ s1.heap.objs.size := hz
  have kk : ∀ b u, s.heap.get? b = some u → (sortedHeap (s1.heap.push (seqObj "list" ws.toArray 0)) s1.heap.objs.size ws ((arrOf st).map (·.2))).get? b = some u := fun b u e => by
    have q := k1 b u e
    have hlt := Heap.lt_size q
    rw [sortedHeap_old (Nat.ne_of_lt hlt) (by rw [size_push']; exact Nat.lt_succ_of_lt hlt)]
    exact Heap.get?_push_of_some _ q
  have hm : (m.map V.str).length ≤ sizeLine := by
    rw [List.length_map, h2.length_eq, List.length_map]
    exact wl
  obtain ⟨h4, g4, d4, t4, o4⟩ := s1
  obtain rfl : g4 = s.gens := g1
  obtain rfl : o4 = s.os := o1
  have hn : H h4.objs.size = none := I.hok.fresh lt
  have J : L2.Inv X pins σ (upd H h4.objs.size (.lst (m.map V.str))) { s with heap := sortedHeap (h4.push (seqObj "list" ws.toArray 0)) h4.objs.size ws ((arrOf st).map (·.2)), gens := s.gens, drawn := d4, toks := t4 } :=
    I.call (ch := []) (Un.laid kk lt hn) (I.hok.laid kk lt ⟨hm, _, c, vals_of_strs h1, hc2⟩) I.bare (fun _ z => nomatch z)
  exact wpAny_pure ⟨_, rfl, .ref _, _, J, rfl, q m _ (h2.trans p2) h3 hn⟩
end
end SG

/-! More rules over own classes, with the written part as a letter. -/
namespace SG
open PySem PySem.Spec PyProof.Rows L2
section
variable {X : Cx} {K : PySem.W.Frag}
theorem passSL (σ : L2.St) : PassesAt (L2.CX X.prog X.w) X σ E0 := fun _ _ _ _ _ _ h => by
  obtain ⟨_, _, _, _, _, _, _, _, _, _, _, _, z⟩ := h
  exact z.elim
theorem k_fld {e : Expr} {f : Str} {pos : Pos} {ta : TE} (he : PE X e ta) (eK : X.K = K := by rfl) (hb : attributeBase e f X.env (eval e X.env) = eval e X.env := by rfl) : PE X (.Attribute e f pos) (tFld K ta f) := by
  subst eK
  exact pe_fld he hb
variable {cx : CXT} {k : Nat} {f : Addr} {fd : FuncData} {ps ks : List Str} {sp : Sp} {E : L2.St → XK} {x : Str} {p pos : Pos} {kws : List Keyword} {tk : TA} {g : List Value → List Value → List Value} {gV : List V → List V → List V}
/-- f(k = e, ..), what it lets out wished for at the slots -/
def tCallSK (sp : Sp) (gV : List V → List V → List V) (E : L2.St → XK) (tk : TA) : TE := fun σ H Q => tk σ H fun zs H1 => sp (gV [] zs) H1 Q (E σ)
theorem pe_callSK (F : FnOk X.prog X.w X.K X.mg X.base cx k f fd ps sp) (hr : Room k X.A) (hg : Gl X x) (hm : X.mg x = some (.ref f)) (hk : PySem.W.keepIn X.K (.ref f) = true) (hb : KBinds X.K fd ps ks g gV) (hx : ∀ σ, PassesAt cx X σ (E σ)) (hkw : PK X kws tk)
    (hall : (backToKw pos (keywordEach kws X.env)).all (·.1.isSome) = true := by rfl) (hks : (backToKw pos (keywordEach kws X.env)).filterMap (·.1) = ks := by rfl) (hdb : (x == ("__debug__" : Str)) = false := by decide)
    (hpl : ((backTo pos (starEach [] X.env)).any (·.1) || (backToKw pos (keywordEach kws X.env)).any (·.1.isNone)) = false := by rfl) :
    PE X (.Call (.Name x p) [] kws pos) (tCallSK sp gV E tk) := by
  refine ⟨fun pins s σ H Q I h => wpAny_Call_Name_kw (ld_glob I hg hm ?_ hdb)⟩
  refine PySem.W.callWith_KW0 (h₀ := X.base) I.ok.mod.kin hk hall (thn (hkw.run pos pins s σ H _ I h) ?_) hpl
  rintro ws s2 ⟨zs, H2, I2, rz, q2⟩
  refine ⟨I2.kIn, ?_⟩
  rw [hks]
  have r2 := hb.rel (Paired.nil : Vals [] []) rz
  have hl := r2.length
  rw [F.len _ _ _ _ q2] at hl
  refine wpAny_call (codeAny_mono (F.run X.A X.stack s2 H2 ⟨[], ks.zip ws⟩ _ _ Q (E σ) hr I2.env0 (hb.to s2 [] ws I2.kIn hl.symm) r2 q2) fun r s3 hq => ?_)
  cases r with
  | error e => exact hx σ pins H2 s2 e s3 I2 hq
  | ok fl =>
    cases fl with
    | ret u => exact I2.after hq
    | next => exact False.elim hq
    | brk => exact False.elim hq
    | cont => exact False.elim hq
end
/-- a value and two keywords, in the other order -/
def kwSelf {α : Type} : List α → List α → List α
  | [a], [y, x] => [a, x, y]
  | _, _ => []
theorem kwSelf_rel {vs : List V} {us : List Value} {zs : List V} {ws : List Value} (a : Vals vs us) (b : Vals zs ws) : Vals (kwSelf vs zs) (kwSelf us ws) := by
  rcases a with _ | ⟨r0, _ | ⟨_, _⟩⟩
  · exact .nil
  · rcases b with _ | ⟨r1, _ | ⟨r2, _ | ⟨_, _⟩⟩⟩
    · exact .nil
    · exact .nil
    · exact .cons r0 (.cons r2 (.cons r1 .nil))
    · exact .nil
  · exact .nil
theorem kwSelf_args {α : Type} {us ws : List α} (h : (kwSelf us ws).length = 3) : ∃ a x y, us = [a] ∧ ws = [y, x] := by
  match us, ws, h with
  | [a], [y, x], _ => exact ⟨a, x, y, rfl, rfl⟩
  | [], _, h => exact absurd h (by simp [kwSelf])
  | [_], [], h => exact absurd h (by simp [kwSelf])
  | [_], [_], h => exact absurd h (by simp [kwSelf])
  | [_], _ :: _ :: _ :: _, h => exact absurd h (by simp [kwSelf])
  | _ :: _ :: _, _, h => exact absurd h (by simp [kwSelf])
end SG

/-! Comprehensions whose values are told by the turn's number. -/
namespace SG
open PySem PySem.Spec PyProof.Rows L2
/-- each turn one value, new objects alone -/
theorem lc_val {J : It} {n : Nat} {G : Hp → Prop} {Y : Nat → Hp → V → Hp → Prop} (w : Walk J n G Y) {g : TG} {te : TE} {vs : List Nat} {σ : L2.St} {H1 : Hp} {D : Addr} {Qd : Hp → Prop} (hn : n ≤ 1000) (hD : H1 D = none) (f : Nat → V) (hG : ∀ H, Same H1 H → G H)
    (turn : ∀ (i : Nat) (x : V) (H2 H3 : Hp), i < n → Same H1 H2 → Y i H2 x H3 → ∀ R : VK, (∀ H6, Same H2 H6 → R (f i) H6) → g x (wipe σ vs) H3 fun σ2 H4 => wipe σ2 vs = wipe σ vs ∧ te σ2 H4 R)
    (done : ∀ (H2 : Hp), Same H1 H2 → H2 D = some (.lst ((List.range n).map f)) → Qd H2) :
    ∃ W : Nat → Nat → Hp → Prop, (∃ m, W 0 m (upd H1 D (.lst []))) ∧ ∀ i m H, W i m H →
      (J.stop i H ∧ Qd H) ∨ (J.go i H ∧ ∃ Nx : Hp → Prop, (∀ H', Nx H' → ∃ m', m' < m ∧ W (i + 1) m' H') ∧ ∀ x H', J.yld i H x H' → g x (wipe σ vs) H' fun σ2 H2 => wipe σ2 vs = wipe σ vs ∧ tYes σ2 H2 fun b H3 =>
        if b = true then te σ2 H3 fun y H4 => ∃ acc, H4 D = some (.lst acc) ∧ acc.length < sizeLine ∧ Nx (upd H4 D (.lst (acc ++ [y]))) else Nx H3) := by
  refine lc_it w (fun i H => Same H1 H ∧ H D = some (.lst ((List.range i).map f))) ⟨same_new hD, upd_same⟩ (fun i H _ q => hG H q.1) ?_ ?_
  · rintro i x H H2 hi ⟨s, hA⟩ hy
    have z := turn i x H H2 hi s hy (fun y H4 => ∃ acc, H4 D = some (.lst acc) ∧ acc.length < sizeLine ∧ (Same H1 (upd H4 D (.lst (acc ++ [y]))) ∧ upd H4 D (.lst (acc ++ [y])) D = some (.lst ((List.range (i + 1)).map f)))) (fun H6 s6 => ⟨_, s6 _ _ hA, small1000 (by simp; omega), same_upd_of (s.trans s6) hD, by rw [upd_same, List.range_succ, List.map_append]; rfl⟩)
    exact z
  · rintro H ⟨s, hA⟩
    exact done H s hA
/-- .. those that the test takes -/
theorem lc_fil {J : It} {n : Nat} {G : Hp → Prop} {Y : Nat → Hp → V → Hp → Prop} (w : Walk J n G Y) {g : TG} {tt : TT} {te : TE} {vs : List Nat} {σ : L2.St} {H1 : Hp} {D : Addr} {Qd : Hp → Prop} (hn : n ≤ 1000) (hD : H1 D = none) (p : Nat → Bool) (f : Nat → V) (hG : ∀ H, Same H1 H → G H)
    (turn : ∀ (i : Nat) (x : V) (H2 H3 : Hp), i < n → Same H1 H2 → Y i H2 x H3 → ∀ (R : VK) (N : Hp → Prop), (p i = true → ∀ H6, Same H2 H6 → R (f i) H6) → (p i = false → ∀ H6, Same H2 H6 → N H6) →
      g x (wipe σ vs) H3 fun σ2 H4 => wipe σ2 vs = wipe σ vs ∧ tt σ2 H4 fun b H5 => if b = true then te σ2 H5 R else N H5)
    (done : ∀ (H2 : Hp), Same H1 H2 → H2 D = some (.lst (((List.range n).filter p).map f)) → Qd H2) :
    ∃ W : Nat → Nat → Hp → Prop, (∃ m, W 0 m (upd H1 D (.lst []))) ∧ ∀ i m H, W i m H →
      (J.stop i H ∧ Qd H) ∨ (J.go i H ∧ ∃ Nx : Hp → Prop, (∀ H', Nx H' → ∃ m', m' < m ∧ W (i + 1) m' H') ∧ ∀ x H', J.yld i H x H' → g x (wipe σ vs) H' fun σ2 H2 => wipe σ2 vs = wipe σ vs ∧ tt σ2 H2 fun b H3 =>
        if b = true then te σ2 H3 fun y H4 => ∃ acc, H4 D = some (.lst acc) ∧ acc.length < sizeLine ∧ Nx (upd H4 D (.lst (acc ++ [y]))) else Nx H3) := by
  refine lc_it w (fun i H => Same H1 H ∧ H D = some (.lst (((List.range i).filter p).map f))) ⟨same_new hD, upd_same⟩ (fun i H _ q => hG H q.1) ?_ ?_
  · rintro i x H H2 hi ⟨s, hA⟩ hy
    refine turn i x H H2 hi s hy _ _ (fun hp H6 s6 => ⟨_, s6 _ _ hA, small1000 ?_, same_upd_of (s.trans s6) hD, ?_⟩) (fun hp H6 s6 => ⟨s.trans s6, ?_⟩)
    · rw [List.length_map]
      have := List.length_filter_le p (List.range i)
      rw [List.length_range] at this
      omega
    · rw [upd_same, List.range_succ, List.filter_append, List.map_append, List.filter_cons_of_pos hp]
      rfl
    · rw [s6 _ _ hA, List.range_succ, List.filter_append, List.map_append, List.filter_cons_of_neg (by rw [hp]; decide)]
      simp
  · rintro H ⟨s, hA⟩
    exact done H s hA
theorem same_none {H H2 : Hp} (s : Same H H2) {a : Addr} (h : H2 a = none) : H a = none := s.free h
/-- all of a list by their places -/
theorem all_range {n : Nat} (b : Nat → Bool) : (((List.range n).map b).all id) = decide (∀ i, i < n → b i = true) := by
  rw [List.all_map]
  by_cases h : ∀ i, i < n → b i = true
  · rw [decide_eq_true h, List.all_eq_true]
    intro i hi
    exact h i (List.mem_range.mp hi)
  · rw [decide_eq_false h]
    refine Bool.eq_false_iff.mpr fun z => h fun i hi => ?_
    exact List.all_eq_true.mp z i (List.mem_range.mpr hi)
theorem bls_map {n : Nat} (b : Nat → Bool) : (List.range n).map (fun i => V.bl (b i)) = ((List.range n).map b).map V.bl := by rw [List.map_map]; rfl
end SG

/-! A text many times. -/
namespace SG
open PySem PySem.Spec PyProof.Rows L2
theorem rep_toList (a : Array Nat) : ∀ (n : Nat) (acc : Array Nat), ((List.replicate n a).foldl (· ++ ·) acc).toList = acc.toList ++ (List.replicate n a.toList).flatten
  | 0, acc => by simp
  | n + 1, acc => by
    rw [List.replicate_succ, List.foldl_cons, rep_toList a n, List.replicate_succ, List.flatten_cons, Array.toList_append, List.append_assoc]
section
variable {X : Cx}
def rRepS : R2 := fun x y H Q => ∃ (z : Str) (n : Nat), x = .str z ∧ y = .int n ∧ 1 ≤ n ∧ z.length * n ≤ 100000 ∧ z.length ≤ 100000 ∧ n ≤ 100000 ∧ ∀ z2 : Str, z2.cps.toList = (List.replicate n z.cps.toList).flatten → Q (.str z2) H
theorem op_repS : OpR X (binaryOp .Mult) rRepS := by
  intro pins s σ H x y v u Q I rx ry h
  obtain ⟨z, n, rfl, rfl, n1, hm, hz, hn, q⟩ := h
  obtain ⟨t, rfl⟩ := rx
  obtain ⟨t2, rfl⟩ := ry
  have zl : z.length = z.cps.size := rfl
  have n63 : ((n : Nat) : Int).toNat = n := rfl
  refine PySem.P.mul_str (by rw [decide_eq_false (by omega), decide_eq_false (by omega)]; rfl) (fun _ _ => ?_) (fun _ _ => ?_) ?_
  · have : ((100000 : Int)) ≤ (2 ^ 63 - 1) / (n : Int) := Int.le_ediv_of_mul_le (by omega) (by omega)
    omega
  · show decide (z.length * ((n : Nat) : Int).toNat > sizeLine) = false
    rw [n63, sizeLine_eq]
    exact decide_eq_false (by omega)
  · rw [if_neg (by omega)]
    by_cases h0 : (((n : Nat) : Int) == 1 || z.length == 0) = true
    · rw [if_pos h0]
      refine ⟨.str z, H, I, ⟨_, rfl⟩, q z ?_⟩
      have h1 : (n : Int) = 1 ∨ z.length = 0 := by simpa using h0
      rcases h1 with h1 | h1
      · obtain rfl : n = 1 := by omega
        simp
      · have e0 : z.cps.toList = [] := List.eq_nil_of_length_eq_zero (by rw [Array.length_toList, ← zl, h1])
        rw [e0]
        simp
    · rw [if_neg h0, n63]
      have e := rep_toList z.cps n #[]
      have e2 : ((List.replicate n z.cps).foldl (· ++ ·) #[]).toList = (List.replicate n z.cps.toList).flatten := by rw [e]; simp
      have hl : (⟨(List.replicate n z.cps).foldl (· ++ ·) #[]⟩ : Str).length ≤ sizeLine := by
        show ((List.replicate n z.cps).foldl (· ++ ·) #[]).size ≤ sizeLine
        rw [← Array.length_toList, e2, List.length_flatten, List.map_replicate, List.sum_replicate_nat, Array.length_toList, ← zl, sizeLine_eq, Nat.mul_comm]
        omega
      exact ⟨hl, .str ⟨(List.replicate n z.cps).foldl (· ++ ·) #[]⟩, H, I.tok _, ⟨_, rfl⟩, q _ e2⟩
end
/-- a tuple two times or more -/
def rRepW (K : PySem.W.Frag) : R2 := fun x y H Q => ∃ l k xs, x = .ref l ∧ y = .int k ∧ SqT K H l xs ∧ xs ≠ [] ∧ 2 ≤ k ∧ k ≤ 1000 ∧ xs.length ≤ 1000 ∧ ∀ (z : Addr) (H3 : Hp), Same H H3 → SqT K H3 z (List.replicate k.toNat xs).flatten → Q (.ref z) H3
theorem k_repW {X : Cx} {K : PySem.W.Frag} (eK : X.K = K := by rfl) : OpR X (binaryOp .Mult) (rRepW K) := by
  subst eK
  intro pins s σ H x y v u Q I rx ry h
  obtain ⟨l, k, xs, rfl, rfl, hT, hne, h1, h2, hz, q⟩ := h
  exact op_repT pins s σ H _ _ v u Q I rx ry ⟨l, k, xs, rfl, rfl, hT, hne, h1, h2, hz, fun p np => q p _ (same_new np) (.inl (.inl upd_same))⟩
theorem mkq {H H7 : Hp} {u : Addr} {o : HO} (n : H u = none) (h : upd H u o = H7) : Same H H7 ∧ H7 u = some o := by subst h; exact ⟨same_new n, upd_same⟩
theorem nextI {ts : TS} {De : Ends} {σ : L2.St} {H : Hp} (h : ts De σ H) : tNext { De with nx := ts De } σ H := h
end SG

/-! // by a divisor of either sign; texts of integers below a bound. -/
namespace SG
open PySem PySem.Spec PyProof.Rows L2
/-- // by a divisor that is not 0, below 2 ^ 9000 either way -/
def CDivN (_ j : Int) : Prop := j ≠ 0 ∧ j.natAbs.log2 < 9000
theorem op_fdivN {X : Cx} : OpR X (binaryOp .FloorDiv) (rI CDivN fun i j => .int (i.fdiv j)) := opI fun i j _ _ _ _ _ hc q =>
  floordiv_int hc.1 q (.inl (PyProof.noPylong_of_log2 hc.2))
theorem wide_divN {i j : Int} {b : Nat} (h : j ≠ 0) (hb : j.natAbs < 2 ^ b) (h0 : 0 < b) (h9 : b ≤ 9000) : CDivN i j := ⟨h, Nat.lt_of_lt_of_le (PySem.Flt.log2_lt_of h0 hb) h9⟩
theorem fdiv_pos_eq {a g : Int} (h : 0 < g) : a.fdiv g = a / g := Int.fdiv_eq_ediv_of_nonneg a (by omega)
theorem fdiv_neg_eq {a g : Int} (h : 0 < g) : a.fdiv (-g) = (-a) / g := by
  have z : (-(-a)).fdiv (-g) = (-a).fdiv g := Int.neg_fdiv_neg ..
  rw [Int.neg_neg] at z
  rw [z]
  exact fdiv_pos_eq h
end SG

/-! Data in which empty dicts stand, at any depth: its kind, its text. -/
namespace SG
open PySem PySem.Spec PyProof.Rows L2
mutual
/-- v is the data d, in which dicts are empty ones -/
inductive Dx (K : PySem.W.Frag) (H : Hp) : V → PyData → Prop
  | non : Dx K H .non .none
  | bl (b : Bool) : Dx K H (.bl b) (.bool b)
  | int (i : Int) : Dx K H (.int i) (.int i)
  | str (t : Str) : Dx K H (.str t) (.str t)
  | lst {p : Addr} {xs : List V} {es : List PyData} (hq : SqL K H p xs) (ha : DxAll K H xs es) : Dx K H (.ref p) (.list es)
  | tup {p : Addr} {xs : List V} {es : List PyData} (hq : SqT K H p xs) (ha : DxAll K H xs es) : Dx K H (.ref p) (.tuple es)
  | dct {p : Addr} (hp : H p = some (.dK [])) : Dx K H (.ref p) (.dict [])
inductive DxAll (K : PySem.W.Frag) (H : Hp) : List V → List PyData → Prop
  | nil : DxAll K H [] []
  | cons {x : V} {xs : List V} {e : PyData} {es : List PyData} (hx : Dx K H x e) (ht : DxAll K H xs es) : DxAll K H (x :: xs) (e :: es)
end
section
variable {K : PySem.W.Frag} {H H2 : Hp} {x : V} {d : PyData}
mutual
theorem dx_dp : ∀ {x : V} {d : PyData}, Dp K H x d → Dx K H x d
  | _, _, .non => .non
  | _, _, .bl b => .bl b
  | _, _, .int i => .int i
  | _, _, .str t => .str t
  | _, _, .lst q a => .lst q (dxA_dp a)
  | _, _, .tup q a => .tup q (dxA_dp a)
theorem dxA_dp : ∀ {xs : List V} {ds : List PyData}, DpAll K H xs ds → DxAll K H xs ds
  | _, _, .nil => .nil
  | _, _, .cons a b => .cons (dx_dp a) (dxA_dp b)
end
mutual
theorem dx_same (s : Same H H2) : ∀ {x : V} {d : PyData}, Dx K H x d → Dx K H2 x d
  | _, _, .non => .non
  | _, _, .bl b => .bl b
  | _, _, .int i => .int i
  | _, _, .str t => .str t
  | _, _, .lst q a => .lst (s.seq q) (dxA_same s a)
  | _, _, .tup q a => .tup (sameT s q) (dxA_same s a)
  | _, _, .dct h => .dct (s _ _ h)
theorem dxA_same (s : Same H H2) : ∀ {xs : List V} {ds : List PyData}, DxAll K H xs ds → DxAll K H2 xs ds
  | _, _, .nil => .nil
  | _, _, .cons a b => .cons (dx_same s a) (dxA_same s b)
end
theorem dx_ty (h : Dx K H x d) : TyX K H x (.type (kindOf d)) := by
  cases h with
  | non => exact .base .non
  | bl b => exact .base (.bl b)
  | int i => exact .base (.int i)
  | str s => exact .base (.str s)
  | dct h => exact .base (.dK h)
  | lst s _ =>
    rcases s with (s | ⟨o, s⟩) | ⟨o, vs, n, s, c, _⟩
    · exact .base (.lst s)
    · exact .base (.frz s)
    · exact .kList s c
  | tup s _ =>
    rcases s with (s | ⟨o, s⟩) | ⟨o, vs, n, s, c, _⟩
    · exact .base (.tup s)
    · exact .fTuple s
    · exact .kTuple s c
theorem dxA_len : ∀ {xs : List V} {ds : List PyData}, DxAll K H xs ds → xs.length = ds.length
  | _, _, .nil => rfl
  | _, _, .cons _ b => congrArg (· + 1) (dxA_len b)
theorem dxA_get : ∀ {xs : List V} {ds : List PyData} {i : Nat} {x : V}, DxAll K H xs ds → xs[i]? = some x → ∃ d, ds[i]? = some d ∧ Dx K H x d
  | _, _, _, _, .nil, e => by simp at e
  | _, _, 0, _, .cons a b, e => by
    simp at e
    subst e
    exact ⟨_, rfl, a⟩
  | _, _, i + 1, x, .cons a b, e => by
    obtain ⟨d, h1, h2⟩ := dxA_get (i := i) (x := x) b (by simpa using e)
    exact ⟨d, by simpa using h1, h2⟩
theorem dxA_app : ∀ {xs ys : List V} {ds es : List PyData}, DxAll K H xs ds → DxAll K H ys es → DxAll K H (xs ++ ys) (ds ++ es)
  | _, _, _, _, .nil, h => h
  | _, _, _, _, .cons a b, h => .cons a (dxA_app b h)
theorem dxA_take : ∀ {xs : List V} {ds : List PyData} (n : Nat), DxAll K H xs ds → DxAll K H (xs.take n) (ds.take n)
  | _, _, 0, _ => .nil
  | _, _, _ + 1, .nil => .nil
  | _, _, n + 1, .cons a b => .cons a (dxA_take n b)
theorem dxA_drop : ∀ {xs : List V} {ds : List PyData} (n : Nat), DxAll K H xs ds → DxAll K H (xs.drop n) (ds.drop n)
  | _, _, 0, h => h
  | _, _, _ + 1, .nil => .nil
  | _, _, n + 1, .cons a b => dxA_drop n b
theorem dxA_rev : ∀ {xs : List V} {ds : List PyData}, DxAll K H xs ds → DxAll K H xs.reverse ds.reverse
  | _, _, .nil => .nil
  | _, _, .cons a b => by
    rw [List.reverse_cons, List.reverse_cons]
    exact dxA_app (dxA_rev b) (.cons a .nil)
theorem dx_tuple {ds : List PyData} (h : Dx K H x (.tuple ds)) : ∃ a xs, x = .ref a ∧ SqT K H a xs ∧ DxAll K H xs ds := by
  cases h with
  | tup q a => exact ⟨_, _, rfl, q, a⟩
theorem kit_d (T : String) (p : PyData → Bool) (h : ∀ d, kitB (kindOf d) T = some (p d)) (d : PyData) : PySem.W.kitOne K (.type (kindOf d)) (.type T) = some (p d) := kit_ty (h d)
theorem isx_tuple (d : PyData) : PySem.W.kitOne K (.type (kindOf d)) (.type "tuple") = some (isTup d) := kit_d _ _ (fun d => by
  cases d with
  | none => exact (show kitB "NoneType" "tuple" = some false by decide +kernel)
  | bool _ => exact (show kitB "bool" "tuple" = some false by decide +kernel)
  | int _ => exact (show kitB "int" "tuple" = some false by decide +kernel)
  | str _ => exact (show kitB "str" "tuple" = some false by decide +kernel)
  | list _ => exact (show kitB "list" "tuple" = some false by decide +kernel)
  | tuple _ => exact (show kitB "tuple" "tuple" = some true by decide +kernel)
  | dict _ => exact (show kitB "dict" "tuple" = some false by decide +kernel)) d
theorem isx_int (d : PyData) : PySem.W.kitOne K (.type (kindOf d)) (.type "int") = some (isIntLike d) := kit_d _ _ (fun d => by
  cases d with
  | none => exact (show kitB "NoneType" "int" = some false by decide +kernel)
  | bool _ => exact (show kitB "bool" "int" = some true by decide +kernel)
  | int _ => exact (show kitB "int" "int" = some true by decide +kernel)
  | str _ => exact (show kitB "str" "int" = some false by decide +kernel)
  | list _ => exact (show kitB "list" "int" = some false by decide +kernel)
  | tuple _ => exact (show kitB "tuple" "int" = some false by decide +kernel)
  | dict _ => exact (show kitB "dict" "int" = some false by decide +kernel)) d
theorem isx_bool (d : PyData) : PySem.W.kitOne K (.type (kindOf d)) (.type "bool") = some (isBool d) := kit_d _ _ (fun d => by
  cases d with
  | none => exact (show kitB "NoneType" "bool" = some false by decide +kernel)
  | bool _ => exact (show kitB "bool" "bool" = some true by decide +kernel)
  | int _ => exact (show kitB "int" "bool" = some false by decide +kernel)
  | str _ => exact (show kitB "str" "bool" = some false by decide +kernel)
  | list _ => exact (show kitB "list" "bool" = some false by decide +kernel)
  | tuple _ => exact (show kitB "tuple" "bool" = some false by decide +kernel)
  | dict _ => exact (show kitB "dict" "bool" = some false by decide +kernel)) d
def isStrD : PyData → Bool
  | .str _ => true
  | _ => false
theorem isx_str (d : PyData) : PySem.W.kitOne K (.type (kindOf d)) (.type "str") = some (isStrD d) := kit_d _ _ (fun d => by
  cases d with
  | none => exact (show kitB "NoneType" "str" = some false by decide +kernel)
  | bool _ => exact (show kitB "bool" "str" = some false by decide +kernel)
  | int _ => exact (show kitB "int" "str" = some false by decide +kernel)
  | str _ => exact (show kitB "str" "str" = some true by decide +kernel)
  | list _ => exact (show kitB "list" "str" = some false by decide +kernel)
  | tuple _ => exact (show kitB "tuple" "str" = some false by decide +kernel)
  | dict _ => exact (show kitB "dict" "str" = some false by decide +kernel)) d
end
/-! ### its text -/
mutual
/-- ints of at most 4300 figures, no dict but empty ones -/
def tellE : PyData → Bool
  | .int i => decide (i.natAbs < 10 ^ 4300)
  | .list xs => tellEAll xs
  | .tuple xs => tellEAll xs
  | .dict kvs => kvs.isEmpty
  | .none => true
  | .bool _ => true
  | .str _ => true
def tellEAll : List PyData → Bool
  | [] => true
  | x :: xs => tellE x && tellEAll xs
end
section
variable {X : Cx} {pins : List (Addr × Obj)} {σ : L2.St} {H : Hp} {s : Shared}
theorem dct_at {a : Addr} (I : Inv X pins σ H s) (ha : H a = some (.dK [])) : (a == sysModules) = false ∧ ∃ o n, s.heap.get? a = some o ∧ o.cls = .type "dict" ∧ o.data = .dict #[] n := by
  obtain ⟨_, hs, vs, kv, o, es, ep, e1, e2, e3, e4, e5, _⟩ := I.hok a _ ha
  cases kv
  have e6 : es = #[] := by
    cases es with
    | mk l => cases l with
      | nil => rfl
      | cons y l => cases e5
  subst e6
  exact ⟨hs, o, ep, e1, e2.1, e3⟩
mutual
theorem dx_told (hn : s.heap.NoDigits) (I : Inv X pins σ H s) : ∀ (d : PyData) (v : V) (u : Value), Dx X.K H v d → RelV v u →
    ∃ as, Reads s.heap u d as ∧ (tellE d = true → d.shown.length ≤ sizeLine → ∃ bs, ReadAtMost s.heap d.depth bs ∧ ReprK X.prog X.w bs s.heap d.depth u d.shown)
  | .none, _, _, h, r => by
    cases h
    cases r
    exact ⟨_, .none, fun _ _ => ⟨[], (fun _ h => nomatch h), by simp only [PyData.shown]; exact .of_is ReprIs.none _ _ _⟩⟩
  | .bool b, _, _, h, r => by
    cases h
    cases r
    exact ⟨_, .bool b, fun _ _ => ⟨[], (fun _ h => nomatch h), by simp only [PyData.shown]; exact .of_is (ReprIs.bool b) _ _ _⟩⟩
  | .int i, _, _, h, r => by
    cases h
    obtain ⟨t, rfl⟩ := r
    exact ⟨_, .int i t, fun ht _ => ⟨[], (fun _ h => nomatch h), by simp only [PyData.shown]; exact reprK_int hn (of_decide_eq_true (by simpa only [tellE] using ht)) _⟩⟩
  | .str x, _, _, h, r => by
    cases h
    obtain ⟨t, rfl⟩ := r
    exact ⟨_, .str x t, fun _ hz => ⟨[], (fun _ h => nomatch h), by simp only [PyData.shown] at hz ⊢; exact .of_is (ReprIs.str x t hz) _ _ _⟩⟩
  | .list ds, _, _, h, r => by
    cases h with
    | lst hs ha =>
      rename_i p xs
      cases r
      obtain ⟨its, rv, ⟨o, n, ho, hc, hw, hd⟩, _⟩ := I.list hs
      obtain ⟨as, q4, hk⟩ := dxA_told hn I ds _ its ha rv
      have whole : Reads s.heap (.ref p) (.list ds) _ := .list ho hc hd q4
      refine ⟨_, whole, fun ht hz => ?_⟩
      have hz2 : (listText (PyData.shownAll ds)).length ≤ sizeLine := by simpa only [PyData.shown] using hz
      obtain ⟨bs, rb, kb⟩ := hk (by simpa only [tellE] using ht) fun t m => Nat.le_trans (listText_mem_le m) hz2
      refine ⟨p :: bs, ReadAtMost.cons whole (by simp only [PyData.depth]; omega) rb, ?_⟩
      have notIn : p ∉ bs := not_mem_of_deeper whole (by simp only [PyData.depth]; omega) rb
      simp only [PyData.depth, PyData.shown]
      cases its with
      | nil =>
        cases q4
        simp only [PyData.shownAll, listText_nil]
        exact ReprK.listEmpty ho hc hd
      | cons y l => exact ReprK.list ho hc hd notIn (by simpa using kb.length_eq) fun i y e => kb.item i y (by simpa using e)
  | .tuple ds, _, _, h, r => by
    cases h with
    | tup hs ha =>
      rename_i p xs
      cases r
      obtain ⟨its, rv, ⟨o, ho, hc, n, hd⟩, _⟩ := I.tuple hs
      obtain ⟨as, q4, hk⟩ := dxA_told hn I ds _ its ha rv
      have whole : Reads s.heap (.ref p) (.tuple ds) _ := .tuple ho hc hd q4
      refine ⟨_, whole, fun ht hz => ?_⟩
      have hz2 : (tupleText (PyData.shownAll ds)).length ≤ sizeLine := by simpa only [PyData.shown] using hz
      obtain ⟨bs, rb, kb⟩ := hk (by simpa only [tellE] using ht) fun t m => Nat.le_trans (tupleText_mem_le m) hz2
      refine ⟨p :: bs, ReadAtMost.cons whole (by simp only [PyData.depth]; omega) rb, ?_⟩
      have notIn : p ∉ bs := not_mem_of_deeper whole (by simp only [PyData.depth]; omega) rb
      simp only [PyData.depth, PyData.shown]
      exact ReprK.tuple ho hc hd notIn (by simpa using kb)
  | .dict kvs, _, _, h, r => by
    cases h with
    | dct hp =>
      rename_i p
      cases r
      obtain ⟨hs, o, n, h1, h2, h3⟩ := dct_at I hp
      have whole : Reads s.heap (.ref p) (.dict []) ([p] ++ []) := .dict (as := []) (bs := []) h1 h2 h3 .nil .nil
      refine ⟨_, whole, fun _ _ => ⟨[p], ReadAtMost.cons whole (Nat.le_refl _) (fun _ h => nomatch h), ?_⟩⟩
      have z := ReprK.dict (prog := X.prog) (w := X.w) (as := []) (d := 0) (ps := []) h1 h2 h3 hs (by simp) .nil
      simp only [PyData.depth, PyData.depthKv, PyData.shown, PyData.shownKv]
      exact z
theorem dxA_told (hn : s.heap.NoDigits) (I : Inv X pins σ H s) : ∀ (ds : List PyData) (vs : List V) (us : List Value), DxAll X.K H vs ds → Vals vs us →
    ∃ as, ReadsAll s.heap us ds as ∧ (tellEAll ds = true → (∀ t ∈ PyData.shownAll ds, t.length ≤ sizeLine) → ∃ bs, ReadAtMost s.heap (PyData.depthAll ds) bs ∧ ReprAllK X.prog X.w bs s.heap (PyData.depthAll ds) us (PyData.shownAll ds))
  | [], _, _, h, r => by
    cases h
    cases r
    exact ⟨_, .nil, fun _ _ => ⟨[], (fun _ h => nomatch h), by simp only [PyData.shownAll]; exact .nil⟩⟩
  | d :: ds, _, _, h, r => by
    cases h with
    | cons h1 h2 =>
      cases r with
      | cons r1 r2 =>
        obtain ⟨as1, q1, k1⟩ := dx_told hn I d _ _ h1 r1
        obtain ⟨as2, q2, k2⟩ := dxA_told hn I ds _ _ h2 r2
        refine ⟨_, .cons q1 q2, fun ht hz => ?_⟩
        have ht2 : tellE d = true ∧ tellEAll ds = true := by simpa only [tellEAll, Bool.and_eq_true] using ht
        obtain ⟨c1, rc1, e1⟩ := k1 ht2.1 (hz _ (by simp only [PyData.shownAll]; exact List.mem_cons_self))
        obtain ⟨c2, rc2, e2⟩ := k2 ht2.2 fun t m => hz t (by simp only [PyData.shownAll]; exact List.mem_cons_of_mem _ m)
        refine ⟨c1 ++ c2, (rc1.mono ?_).append (rc2.mono ?_), ?_⟩
        · simp only [PyData.depthAll]; exact Nat.le_max_left _ _
        · simp only [PyData.depthAll]; exact Nat.le_max_right _ _
        · simp only [PyData.depthAll, PyData.shownAll]
          exact .cons ((e1.more fun b m => List.mem_append_left _ m).level_le (Nat.le_max_left _ _)) (e2.more_le (fun b m => List.mem_append_right _ m) (Nat.le_max_right _ _))
end
end
section
variable {X : Cx}
def rReprX (K : PySem.W.Frag) : List V → Hp → VK → Prop := fun xs Hx R => ∃ x d, xs = [x] ∧ Dx K Hx x d ∧ tellE d = true ∧ d.depth ≤ 60 ∧ d.shown.length ≤ sizeLine ∧ R (.str d.shown) Hx
theorem call_reprX (hn : X.base.NoDigits) (hg : X.A.guards = some []) {k : Nat} (hr : Room k X.A) : CallR X (.builtin "repr") (rReprX X.K) := by
  intro pins st σ Hx xs us R I rv h
  obtain ⟨x, d, rfl, hd, ht, hdep, hz, q⟩ := h
  obtain ⟨u, rfl, rx⟩ : ∃ u, us = [u] ∧ RelV x u := by
    cases rv with
    | cons a b => cases b; exact ⟨_, rfl, a⟩
  have hu := hr.units
  have ndig := digs hn I
  cases hd with
  | non =>
    obtain rfl : u = Value.none := rx
    simp only [PyData.shown] at q
    exact PySem.P.repr_of_none ⟨.str _, Hx, I.tok _, ⟨_, rfl⟩, q⟩
  | bl b =>
    obtain rfl : u = Value.bool b := rx
    simp only [PyData.shown] at q
    exact PySem.P.repr_of_bool ⟨.str _, Hx, I.tok _, ⟨_, rfl⟩, q⟩
  | int i =>
    obtain ⟨t, rfl⟩ := rx
    simp only [PyData.shown] at q
    exact int_repr (by omega) ndig (of_decide_eq_true (by simpa only [tellE] using ht)) ⟨.str _, Hx, I.tok _, ⟨_, rfl⟩, q⟩
  | str y =>
    obtain ⟨t, rfl⟩ := rx
    simp only [PyData.shown] at q hz
    exact PySem.P.repr_of_str ⟨.str _, Hx, I.tok _, ⟨_, rfl⟩, q⟩ hz
  | dct hp =>
    rename_i p
    obtain rfl : u = Value.ref p := rx
    obtain ⟨hs, o, n, h1, h2, h3⟩ := dct_at I hp
    have e : PyData.shown (.dict []) = "{}" := by decide +kernel
    rw [e] at q
    exact repr_dict0 h1 h2 h3 hs hg (by omega) fun h2 u tk hk => ⟨.str _, Hx, I.kept (t' := tk) hk, ⟨_, rfl⟩, q⟩
  | lst hs ha =>
    rename_i p xs ds
    obtain rfl : u = Value.ref p := rx
    obtain ⟨its, rv, ⟨o, n, ho, hc, hw, hd⟩, _⟩ := I.list hs
    obtain ⟨as, q4, hk⟩ := dxA_told ndig I ds _ its ha rv
    have whole : Reads st.heap (.ref p) (.list ds) _ := .list ho hc hd q4
    simp only [PyData.depth] at hdep
    simp only [PyData.shown] at q hz
    obtain ⟨bs, rb, kb⟩ := hk (by simpa only [tellE] using ht) fun t m => Nat.le_trans (listText_mem_le m) hz
    have notIn : p ∉ bs := not_mem_of_deeper whole (by simp only [PyData.depth]; omega) rb
    refine call_repr_slot (by omega) ⟨o, ho, hc⟩ F.slot_list_repr.toG ?_
    cases its with
    | nil =>
      cases q4
      simp only [PyData.shownAll, listText_nil] at q
      exact call_list_repr_empty ⟨o, ho, hc⟩ ho hd ⟨_, _, rfl, ⟨.str _, Hx, I.tok _, ⟨_, rfl⟩, q⟩⟩
    | cons y l => exact call_list_reprK ho hc hd notIn (by simpa using kb.length_eq) (fun i y e => kb.item i y (by simpa using e)) hg (fun b _ => Clear.nil b) (by show X.A.units + 1 + _ < _; omega) (fun _ _ e => e) (fun h2 u tk hk => ⟨_, _, rfl, ⟨.str _, Hx, I.kept (t' := tk) hk, ⟨_, rfl⟩, q⟩⟩) hz
  | tup hs ha =>
    rename_i p xs ds
    obtain rfl : u = Value.ref p := rx
    obtain ⟨its, rv, ⟨o, ho, hc, n, hd⟩, _⟩ := I.tuple hs
    obtain ⟨as, q4, hk⟩ := dxA_told ndig I ds _ its ha rv
    have whole : Reads st.heap (.ref p) (.tuple ds) _ := .tuple ho hc hd q4
    simp only [PyData.depth] at hdep
    simp only [PyData.shown] at q hz
    obtain ⟨bs, rb, kb⟩ := hk (by simpa only [tellE] using ht) fun t m => Nat.le_trans (tupleText_mem_le m) hz
    have notIn : p ∉ bs := not_mem_of_deeper whole (by simp only [PyData.depth]; omega) rb
    refine call_repr_slot (by omega) ⟨o, ho, hc⟩ F.slot_tuple_repr ?_
    exact call_tuple_reprK ho hc hd notIn (by simpa using kb) hg (fun b _ => Clear.nil b) (by show X.A.units + 1 + _ < _; omega) (fun _ _ e => e) (fun h2 u tk hk => ⟨_, _, rfl, ⟨.str _, Hx, I.kept (t' := tk) hk, ⟨_, rfl⟩, q⟩⟩) hz
theorem k_reprX {K : PySem.W.Frag} {k : Nat} (hn : X.base.NoDigits) (hg : X.A.guards = some []) (hr : Room k X.A) (e : X.K = K := by rfl) : CallR X (.builtin "repr") (rReprX K) := e ▸ call_reprX hn hg hr
end
end SG

/-! Comparing with an empty list or tuple, whatever is held; whole numbers and truths put together with one. -/
namespace SG
open PySem PySem.Spec PyProof.Rows L2
section
variable {X : Cx}
/-- both lists, or both tuples, the second one empty -/
def NilPair (K : PySem.W.Frag) (H : Hp) (a b : Addr) (xs : List V) : Prop := (SqT K H a xs ∧ SqT K H b []) ∨ (SqL K H a xs ∧ SqL K H b [])
def rEqE (K : PySem.W.Frag) : R2 := fun x y H Q => ∃ a b xs, x = .ref a ∧ y = .ref b ∧ NilPair K H a b xs ∧ Q (.bl xs.isEmpty) H
def rNeE (K : PySem.W.Frag) : R2 := fun x y H Q => ∃ a b xs, x = .ref a ∧ y = .ref b ∧ NilPair K H a b xs ∧ Q (.bl (!xs.isEmpty)) H
theorem size_of_vals {xs : List V} {us : List Value} (r : Vals xs us) : us.toArray.size = xs.length := by rw [List.size_toArray, r.length]
theorem vals_nil {us : List Value} (r : Vals [] us) : us = [] := by cases r; rfl
theorem op_eqE (hu : X.A.units < cLine) : OpR X (compareOp .Eq) (rEqE X.K) := by
  intro pins s σ H x y v u Q I rx ry h
  obtain ⟨a, b, xs, rfl, rfl, h, q⟩ := h
  cases rx
  cases ry
  rcases h with ⟨ha, hb⟩ | ⟨ha, hb⟩
  · obtain ⟨is1, r1, p1, _⟩ := I.tuple ha
    obtain ⟨is2, r2, p2, _⟩ := I.tuple hb
    obtain rfl := vals_nil r2
    have e := size_of_vals r1
    refine SeqAt.eq_tupleAt p1 p2 hu (e := fun _ => true) (fun j _ h2 => absurd h2 (by simp)) ⟨.bl xs.isEmpty, H, I, ?_, q⟩
    show Value.bool _ = Value.bool _
    congr 1
    rw [e]
    cases xs <;> simp
  · obtain ⟨is1, r1, p1, _⟩ := I.list ha
    obtain ⟨is2, r2, p2, _⟩ := I.list hb
    obtain rfl := vals_nil r2
    have e := size_of_vals r1
    cases xs with
    | nil => exact SeqAt.eq_listAt p1.isList p2.isList (by rw [e]; rfl) hu (e := fun _ => true) (fun j _ h2 => absurd h2 (by simp)) ⟨.bl true, H, I, by rw [e]; rfl, q⟩
    | cons z zs => exact SeqAt.eq_list_lengthsAt p1.isList p2.isList (by rw [e]; simp) hu ⟨.bl false, H, I, rfl, q⟩
theorem op_neE (hu : X.A.units < cLine) : OpR X (compareOp .NotEq) (rNeE X.K) := by
  intro pins s σ H x y v u Q I rx ry h
  obtain ⟨a, b, xs, rfl, rfl, h, q⟩ := h
  cases rx
  cases ry
  rcases h with ⟨ha, hb⟩ | ⟨ha, hb⟩
  · obtain ⟨is1, r1, p1, _⟩ := I.tuple ha
    obtain ⟨is2, r2, p2, _⟩ := I.tuple hb
    obtain rfl := vals_nil r2
    have e := size_of_vals r1
    refine SeqAt.RcNeAt.tuples p1 p2 hu (e := fun _ => true) (fun j _ h2 => absurd h2 (by simp)) X.prog X.w X.xe _ ⟨.bl (!xs.isEmpty), H, I, ?_, q⟩
    show Value.bool _ = Value.bool _
    congr 1
    rw [e]
    cases xs <;> simp
  · obtain ⟨is1, r1, p1, _⟩ := I.list ha
    obtain ⟨is2, r2, p2, _⟩ := I.list hb
    obtain rfl := vals_nil r2
    have e := size_of_vals r1
    cases xs with
    | nil => exact SeqAt.RcNeAt.lists p1.isList p2.isList (by rw [e]; rfl) hu (e := fun _ => true) (fun j _ h2 => absurd h2 (by simp)) X.prog X.w X.xe _ ⟨.bl false, H, I, by rw [e]; rfl, q⟩
    | cons z zs => exact SeqAt.RcNeAt.lists_lengths p1.isList p2.isList (by rw [e]; simp) hu X.prog X.w X.xe _ ⟨.bl true, H, I, rfl, q⟩
theorem k_eqE {K : PySem.W.Frag} (hu : X.A.units + 64 < cLine) (e : X.K = K := by rfl) : OpR X (compareOp .Eq) (rEqE K) := e ▸ op_eqE (by omega)
theorem k_neE {K : PySem.W.Frag} (hu : X.A.units + 64 < cLine) (e : X.K = K := by rfl) : OpR X (compareOp .NotEq) (rNeE K) := e ▸ op_neE (by omega)
/-! ### whole numbers and truths -/
/-- the number that a whole number, or a truth, counts as -/
def num : PyData → Int
  | .int i => i
  | .bool b => if b = true then 1 else 0
  | _ => 0
/-- x is the whole number or truth d -/
def NumV (x : V) (d : PyData) : Prop := (∃ i, x = .int i ∧ d = .int i) ∨ (∃ b, x = .bl b ∧ d = .bool b)
def rAddN : R2 := fun x y H Q => ∃ d j, NumV x d ∧ y = .int j ∧ Q (.int (num d + j)) H
def rSubN : R2 := fun x y H Q => ∃ d j, NumV x d ∧ y = .int j ∧ Q (.int (num d - j)) H
def rEqN : R2 := fun x y H Q => ∃ d j, NumV x d ∧ y = .int j ∧ Q (.bl (num d == j)) H
theorem op_addN : OpR X (binaryOp .Add) rAddN := by
  intro pins s σ H x y v u Q I rx ry h
  obtain ⟨d, j, hx, rfl, q⟩ := h
  obtain ⟨t, rfl⟩ := ry
  rcases hx with ⟨i, rfl, rfl⟩ | ⟨b, rfl, rfl⟩
  · obtain ⟨t1, rfl⟩ := rx
    exact add_int ⟨.int (i + j), H, I.tok _, ⟨_, rfl⟩, q⟩
  · cases rx
    exact IntBool.add_bool_int ⟨.int _, H, I.tok _, ⟨_, rfl⟩, q⟩
theorem op_subN : OpR X (binaryOp .Sub) rSubN := by
  intro pins s σ H x y v u Q I rx ry h
  obtain ⟨d, j, hx, rfl, q⟩ := h
  obtain ⟨t, rfl⟩ := ry
  rcases hx with ⟨i, rfl, rfl⟩ | ⟨b, rfl, rfl⟩
  · obtain ⟨t1, rfl⟩ := rx
    exact sub_int ⟨.int (i - j), H, I.tok _, ⟨_, rfl⟩, q⟩
  · cases rx
    exact IntBool.sub_bool_int ⟨.int _, H, I.tok _, ⟨_, rfl⟩, q⟩
theorem op_eqN : OpR X (compareOp .Eq) rEqN := by
  intro pins s σ H x y v u Q I rx ry h
  obtain ⟨d, j, hx, rfl, q⟩ := h
  obtain ⟨t, rfl⟩ := ry
  rcases hx with ⟨i, rfl, rfl⟩ | ⟨b, rfl, rfl⟩
  · obtain ⟨t1, rfl⟩ := rx
    exact SeqAt.RcAt.int_int i t1 j t X.prog X.w X.xe _ ⟨.bl _, H, I, rfl, q⟩
  · cases rx
    exact SeqAt.RcAt.bool_int b j t X.prog X.w X.xe _ ⟨.bl _, H, I, rfl, q⟩
/-- str of a whole number or a truth -/
def numT : PyData → Str
  | .int i => Str.ofString (toString i)
  | .bool b => if b = true then "True" else "False"
  | _ => ""
def rStrN : List V → Hp → VK → Prop := fun xs H Q => ∃ x d, xs = [x] ∧ NumV x d ∧ (num d).natAbs.log2 < 1920 ∧ Q (.str (numT d)) H
theorem call_strN : CallR X (.type "str") rStrN := by
  intro pins s σ H xs us Q I r h
  obtain ⟨x, d, rfl, hx, hl, q⟩ := h
  rcases hx with ⟨i, rfl, rfl⟩ | ⟨b, rfl, rfl⟩
  · exact call_str_int pins s σ H [.int i] us Q I r ⟨i, rfl, hl, q⟩
  · obtain ⟨u, rfl, rx⟩ : ∃ u, us = [u] ∧ RelV (.bl b) u := by
      cases r with
      | cons a c => cases c; exact ⟨_, rfl, a⟩
    cases rx
    exact PySem.P.str_of_bool ⟨.str _, H, I.tok _, ⟨_, rfl⟩, q⟩
end
end SG

/-! Turned round: a tuple or a text; a text twice. -/
namespace SG
open PySem PySem.Spec PyProof.Rows L2
section
variable {prog : Program} {w : World} {A : Around} {Er : Value → Shared → Prop} {s : Shared}
theorem turn_idx {α : Type} (xs : Array α) : (List.range xs.size).filterMap (fun (j : Nat) => xs[(((xs.size : Int) - 1) + (j : Int) * (-1)).toNat]?) = xs.toList.reverse := by
  have e : (fun (j : Nat) => xs[(((xs.size : Int) - 1) + (j : Int) * (-1)).toNat]?) = (fun j => xs[j]?) ∘ fun j : Nat => ((((xs.size : Int) - 1) + (j : Int) * (-1)).toNat) := rfl
  have m : (List.range xs.size).map (fun j : Nat => ((((xs.size : Int) - 1) + (j : Int) * (-1)).toNat)) = (List.range xs.size).map fun j => xs.size - 1 - j := by
    apply List.map_congr_left
    intro j hj
    have := List.mem_range.mp hj
    omega
  rw [e, ← List.filterMap_map, m, PySem.W.krv_range, List.filterMap_reverse, PySem.W.krv_all]
theorem turn_applied {sl : Addr} {vl vu vs : Value} {n : Nat} {Q : Int × Int × Nat → Shared → Prop} (hs : s.heap.IsSliceOf sl vl vu vs) (pl : IsPart vl none) (pu : IsPart vu none) (ps : IsPart vs (some (-1)))
    (h : Q ((n : Int) - 1, -1, n) s) : wpAny (model prog w) A (Builtin.Slice.sliceApplied (.ref sl) (pure (n : Int))) Q Er s := by
  obtain ⟨ob, g1, g2, g3⟩ := id hs
  unfold Builtin.Slice.sliceApplied Builtin.Slice.sliceFields
  refine wpAny_bind (wpAny_bind (wpAny_field g1 g3 (x := vl) rfl (wpAny_bind (wpAny_field g1 g3 (x := vu) rfl (wpAny_bind (wpAny_field g1 g3 (x := vs) rfl (wpAny_pure ?_)))))))
  refine wpAny_bind (HT.slicePart_ ps ?_)
  show wpAny _ _ (if ((-1 : Int) == 0) = true then _ else _) _ _ s
  rw [if_neg (by decide)]
  refine wpAny_bind (HT.slicePart_ pl (wpAny_bind (HT.slicePart_ pu (wpAny_bind (wpAny_pure ?_)))))
  show wpAny _ _ (match Builtin.Slice.sliceAdjust none none (-1) (n : Int) with | (lo, hi) => pure (lo, (-1 : Int), Builtin.Slice.slicePlaces lo hi (-1))) _ _ s
  have e1 : Builtin.Slice.sliceAdjust none none (-1) (n : Int) = ((n : Int) - 1, -1) := by
    unfold Builtin.Slice.sliceAdjust
    simp
  rw [e1]
  show wpAny _ _ (pure ((n : Int) - 1, (-1 : Int), Builtin.Slice.slicePlaces ((n : Int) - 1) (-1) (-1))) _ _ s
  have e2 : Builtin.Slice.slicePlaces ((n : Int) - 1) (-1) (-1) = n := by
    unfold Builtin.Slice.slicePlaces
    rw [if_neg (show ¬ ((-1 : Int) > 0) by decide)]
    by_cases hn : n = 0
    · subst hn
      simp
    · rw [if_pos (show (n : Int) - 1 > -1 by omega)]
      have : ((n : Int) - 1 - -1 - 1) / (- -1) = (n : Int) - 1 := by
        rw [show (- -1 : Int) = 1 by decide, Int.ediv_one]
        omega
      omega
  rw [e2]
  exact wpAny_pure h
theorem getItem_tuple_turn {t sl : Addr} {its : Array Value} {vl vu vs : Value} {Q : Value → Shared → Prop} (ht : IsTup s.heap t its) (hs : s.heap.IsSliceOf sl vl vu vs) (pl : IsPart vl none) (pu : IsPart vu none) (ps : IsPart vs (some (-1)))
    (hz : its.size ≤ sizeLine) (h : Q (.ref s.heap.objs.size) { s with heap := s.heap.push { cls := .type "tuple", data := .seq its.toList.reverse.toArray } }) : wpAny (model prog w) A (getItem (.ref t) (.ref sl)) Q Er s := by
  obtain ⟨ob, g1, g2, g3⟩ := id hs
  have hT : s.TypeIs (.ref sl) "slice" := ⟨ob, g1, g2⟩
  unfold getItem
  (try with_reducible refine wpAny_holding ?_); (first | refine wpAny_bind (wpAny_pure ?_) | skip)
  refine' wpAny_bind (wpAny_sequenceKey ht.typeIs (by decide) ?_)
  refine wpAny_bind (wpAny_callSpecial?_slot (name := Str.ofString "__getitem__") ht.typeIs PyProof.Rows.slot_tuple_getitem (wpAny_call_entry PyProof.Rows.slot_tuple_getitem ht.typeIs entry_tuple_getitem ?_ (args_tuple_getitem _ _)))
  show wpAny (model prog w) _ (Builtin.Tuple.tupleItemsOf (.ref t) >>= _) _ _ s
  refine' wpAny_bind (tupleItemsOf_ ht (wpAny_bind (wpAny_typeOf hT ?_)))
  rw [if_pos (by decide)]
  refine wpAny_bind (turn_applied hs pl pu ps ?_)
  have hno : ¬ ((((its.size : Int) - 1) == 0 && (-1 : Int) == 1 && its.size == its.size) = true) := by simp
  show wpAny _ _ (if (((its.size : Int) - 1) == 0 && (-1 : Int) == 1 && its.size == its.size) = true then _ else _) _ _ s
  rw [if_neg hno, turn_idx]
  have hsz : sizeOk (.seq its.toList.reverse.toArray) := by
    show its.toList.reverse.toArray.size ≤ sizeLine
    rw [List.size_toArray, List.length_reverse, Array.length_toList]
    exact hz
  have fin := h
  first
    | exact wpAny_bind (m := Builtin.Tuple.tupleExact _) (wpAny_newObj_type (wpAny_pure ⟨_, rfl, wpAny_pure fin⟩) hsz)
    | exact wpAny_bind (m := Builtin.Tuple.tupleExact _) (wpAny_newObj_type (wpAny_bind (wpAny_pure (wpAny_pure ⟨_, rfl, wpAny_pure fin⟩))) hsz)
    | exact wpAny_bind (wpAny_bind (m := Builtin.Tuple.tupleExact _) (wpAny_newObj_type (wpAny_pure (wpAny_pure ⟨_, rfl, wpAny_pure fin⟩)) hsz))
    | exact wpAny_bind (wpAny_bind (m := Builtin.Tuple.tupleExact _) (wpAny_newObj_type (wpAny_pure ⟨_, rfl, wpAny_pure fin⟩) hsz))
end
section
variable {X : Cx}
/-- a tuple or a text turned round -/
def tRevX (K : PySem.W.Frag) (te : TE) : TE := fun σ H Q => te σ H fun x H1 => (∃ a xs, x = .ref a ∧ SqT K H1 a xs ∧ ∀ p, H1 p = none → Q (.ref p) (upd H1 p (.tup xs.reverse))) ∨
  (∃ z : Str, x = .str z ∧ z.length ≤ 100000 ∧ ∀ z2 : Str, z2.cps.toList = z.cps.toList.reverse → Q (.str z2) H1)
theorem pe_revX {K : PySem.W.Frag} {e : Expr} {te : TE} {k : Nat} {p1 p2 p3 pos : Pos} (he : PE X e te) (eK : X.K = K := by rfl) :
    PE X (.Subscript e (.Slice none none (some (.UnaryOp .USub (.Constant (.int 1) k p1) p2)) p3) pos) (tRevX K te) := by
  subst eK
  refine ⟨fun pins s σ H Q I h => ?_⟩
  refine Subscript_ (thn (he.run pins s σ H _ I h) fun v s1 ⟨x, H1, I1, r1, q1⟩ => ?_)
  have hstep : PO X (some (.UnaryOp .USub (.Constant (.int 1) k p1) p2)) (tPart (tUn (rU fun i => .int (-i)) (tC (.int 1)))) := po_some (pe_un un_neg pe_int)
  refine wpAny_Slice (thn (po_none.run pins s1 σ H1 (fun o Ha => o = none ∧ Ha = H1) I1 ⟨rfl, rfl⟩) fun vl s2 ⟨lo, H2, I2, pl, e1, e2⟩ => ?_)
  subst e1 e2
  refine thn (po_none.run pins s2 σ H2 (fun o Ha => o = none ∧ Ha = H2) I2 ⟨rfl, rfl⟩) fun vu s3 ⟨hi, H3, I3, pu, e3, e4⟩ => ?_
  subst e3 e4
  refine thn (hstep.run pins s3 σ H3 (fun o Ha => o = some (-1) ∧ Ha = H3) I3 ⟨1, rfl, -1, rfl, rfl, rfl⟩) fun vs s4 ⟨o, H4, I4, ps, e5, e6⟩ => ?_
  subst e5 e6
  have I5 : Inv X pins σ H4 { s4 with heap := s4.heap.push { cls := .type "slice", data := .fields #[vl, vu, vs] } } := I4.kept (t' := s4.toks) fun b ob q => Heap.get?_push_of_some _ q
  rcases q1 with ⟨a, xs, ex, hx, q⟩ | ⟨z, ex, hz, q⟩
  · subst ex
    cases r1
    obtain ⟨its, r, ht, hz⟩ := I5.tuple hx
    have hlen := r.length
    refine PyProof.Rows.tail_any (ops := [.ref a, .ref s4.heap.objs.size]) ht.typeIs PyProof.Rows.slot_tuple_getitem.lookup ?_ (by with_unfolding_all rfl)
    refine getItem_tuple_turn ht (Heap.IsSliceOf.new _ vl vu vs) pl pu ps (by rw [List.size_toArray]; omega) ?_
    refine ⟨.ref _, _, I5.laid (t' := s4.toks) (o := .tup xs.reverse) (fun b ob q => Heap.get?_push_of_some _ q) (Nat.le_refl _) ?_, rfl, q _ (I5.hok.fresh (Nat.le_refl _))⟩
    exact ⟨by rw [List.length_reverse]; exact hz, _, r.reverse, IsTup.new _ _⟩
  · subst ex
    obtain ⟨t, rfl⟩ := r1
    have hsl : ({ s4 with heap := s4.heap.push { cls := .type "slice", data := .fields #[vl, vu, vs] } } : Shared).heap.IsSliceOf s4.heap.objs.size vl vu vs := Heap.IsSliceOf.new _ vl vu vs
    obtain ⟨lo, rfl, e1⟩ := IsPart.raw pl
    obtain ⟨hi, rfl, e2⟩ := IsPart.raw pu
    obtain ⟨st, rfl, e3⟩ := IsPart.raw ps
    obtain ⟨ob, g1, g2, g3⟩ := hsl
    have n1 : lo = none := by cases lo with | none => rfl | some _ => cases e1
    have n2 : hi = none := by cases hi with | none => rfl | some _ => cases e2
    obtain ⟨t3, rfl⟩ : ∃ t3, st = some (-1, t3) := by
      cases st with
      | none => cases e3
      | some p =>
        obtain ⟨c, t3⟩ := p
        have e4 : c = -1 := by simpa using e3
        exact ⟨t3, by rw [e4]⟩
    subst n1 n2
    refine PyProof.Rows.tail_any (ops := [.str z t, .ref s4.heap.objs.size]) (typeIs_str _ _ _) F.slot_str_getitem.lookup ?_ (by with_unfolding_all rfl)
    refine wpAny_getItem_str_slice (l := none) (u := none) (st := some (-1, t3)) ⟨ob, g1, g2, g3⟩ rfl ?_
    have hpick : (slicePicked z none none (some (-1, t3))).filterMap (z.cps[·]?) = z.cps.toList.reverse := by
      have e : slicePicked z none none (some (-1, t3)) = (List.range z.cps.size).map fun j => z.cps.size - 1 - j := PySem.W.krv_sliceRange z.cps.size
      rw [e, PySem.W.krv_range, List.filterMap_reverse, PySem.W.krv_all]
    unfold sliceMade
    rw [if_neg (by simp), hpick]
    have hl : (⟨z.cps.toList.reverse.toArray⟩ : Str).length ≤ sizeLine := by
      show z.cps.toList.reverse.toArray.size ≤ sizeLine
      rw [List.size_toArray, List.length_reverse, Array.length_toList]
      exact Nat.le_trans hz (by decide)
    exact ⟨hl, .str ⟨z.cps.toList.reverse.toArray⟩, H4, I5.tok _, ⟨_, rfl⟩, q _ (by simp)⟩
/-- a text twice -/
def rTwice : R2 := fun x y H Q => ∃ z : Str, x = .str z ∧ y = .int 2 ∧ z.length ≤ 100000 ∧ ∀ z2 : Str, z2.cps.toList = z.cps.toList ++ z.cps.toList → Q (.str z2) H
theorem op_twice : OpR X (binaryOp .Mult) rTwice := by
  intro pins s σ H x y v u Q I rx ry h
  obtain ⟨z, rfl, rfl, hz, q⟩ := h
  obtain ⟨t, rfl⟩ := rx
  obtain ⟨t2, rfl⟩ := ry
  have zl : z.length = z.cps.size := rfl
  refine PySem.P.mul_str (by decide) (fun _ _ => by omega) (fun _ _ => ?_) ?_
  · show decide (z.length * (2 : Int).toNat > sizeLine) = false
    have h2 : (2 : Int).toNat = 2 := rfl
    rw [h2, sizeLine_eq]
    exact decide_eq_false (by omega)
  · rw [if_neg (by decide)]
    by_cases h0 : ((2 : Int) == 1 || z.length == 0) = true
    · rw [if_pos h0]
      have e0 : z.cps.toList = [] := by
        have h1 : z.length = 0 := by simpa using h0
        exact List.eq_nil_of_length_eq_zero (by rw [Array.length_toList, ← zl, h1])
      exact ⟨.str z, H, I, ⟨_, rfl⟩, q z (by rw [e0]; rfl)⟩
    · rw [if_neg h0]
      have e : (List.replicate (2 : Int).toNat z.cps).foldl (· ++ ·) #[] = z.cps ++ z.cps := by
        show (#[] ++ z.cps) ++ z.cps = z.cps ++ z.cps
        rw [Array.empty_append]
      rw [e]
      have hl : (⟨z.cps ++ z.cps⟩ : Str).length ≤ sizeLine := by
        show (z.cps ++ z.cps).size ≤ sizeLine
        rw [Array.size_append, sizeLine_eq]
        omega
      exact ⟨hl, .str ⟨z.cps ++ z.cps⟩, H, I.tok _, ⟨_, rfl⟩, q _ (by simp)⟩
end
end SG

/-! remove of pairs of whole numbers; the set of a tuple of whole numbers. -/
namespace SG
open PySem PySem.Spec PyProof.Rows L2
section
variable {X : Cx}
def pairD (q : Int × Int) : PyData := .tuple [.int q.1, .int q.2]
theorem pairD_plain (q : Int × Int) : (pairD q).plain = true := by simp [pairD, PyData.plain, PyData.plainAll]
theorem pairsD_plain : ∀ qs : List (Int × Int), PyData.plainAll (qs.map pairD) = true
  | [] => by simp [PyData.plainAll]
  | q :: qs => by simp [PyData.plainAll, pairD_plain q, pairsD_plain qs]
theorem pairD_eqv (p q : Int × Int) : PyData.eqv (pairD p) (pairD q) = (p == q) := by
  obtain ⟨a, b⟩ := p
  obtain ⟨c, e⟩ := q
  have h : ((a, b) == (c, e)) = ((a == c) && (b == e)) := rfl
  rw [h]
  simp [pairD, PyData.eqv, PyData.eqvAll]
/-- the objects ys are the pairs qs -/
def Prs (K : PySem.W.Frag) (H : Hp) (ys : List V) (qs : List (Int × Int)) : Prop := Paired (fun (y : V) (q : Int × Int) => ∃ t, y = .ref t ∧ SqT K H t [.int q.1, .int q.2]) ys qs
theorem prs_dp {K : PySem.W.Frag} {H : Hp} : ∀ {ys : List V} {qs : List (Int × Int)}, Prs K H ys qs → DpAll K H ys (qs.map pairD)
  | _, _, .nil => .nil
  | _, _, .cons ⟨t, e, h⟩ r => by
    subst e
    exact .cons (.tup h (.cons (.int _) (.cons (.int _) .nil))) (prs_dp r)
theorem pairs_depth : ∀ qs : List (Int × Int), PyData.depthAll (qs.map pairD) ≤ 1
  | [] => by simp [PyData.depthAll]
  | q :: qs => by
    have := pairs_depth qs
    simp only [List.map_cons, PyData.depthAll, pairD, PyData.depth]
    omega
theorem place_of {qs : List (Int × Int)} {q : Int × Int} {j : Nat} (h : qs.findIdx? (· == q) = some j) : SeqAt.dataPlace (qs.map pairD) (pairD q) = some j := by
  unfold SeqAt.dataPlace
  rw [List.findIdx?_map]
  have e : ((fun y => PyData.eqv y (pairD q)) ∘ pairD) = fun p => p == q := funext fun p => pairD_eqv p q
  rw [e]
  exact h
def rRemP (K : PySem.W.Frag) : V → List V → Hp → VK → Prop := fun x xs H Q => ∃ (l t : Addr) (ys : List V) (qs : List (Int × Int)) (q : Int × Int) (j : Nat), x = .ref l ∧ xs = [.ref t] ∧ H l = some (.lst ys) ∧ Prs K H ys qs ∧ SqT K H t [.int q.1, .int q.2] ∧
  qs.findIdx? (· == q) = some j ∧ Q .non (upd H l (.lst (ys.eraseIdx j)))
theorem len_cut {α : Type} (xs : List α) (j : Nat) : (xs.eraseIdx j).length ≤ xs.length := List.length_eraseIdx_le ..
theorem mt_removeP (hu : X.A.units + 64 < cLine) : MtM X "list.remove" (rRemP X.K) := by
  intro pins s σ H x xs v us Q I rx rxs h
  obtain ⟨l, t, ys, qs, q, j, rfl, rfl, hH, hp, ht, hj, k⟩ := h
  cases rx
  obtain ⟨u, rfl, ru⟩ := rxs.one
  obtain rfl : u = Value.ref t := ru
  obtain ⟨z, its, n, r, hl, e⟩ := I.lstM hH
  obtain ⟨as, ra⟩ := Dp.readsAll I _ _ its (prs_dp hp) r
  obtain ⟨bs, rb⟩ := Dp.reads I (pairD q) (.ref t) (.ref t) (.tup ht (.cons (.int _) (.cons (.int _) .nil))) rfl
  have hd : (pairD q).depth = 1 := by simp [pairD, PyData.depth, PyData.depthAll]
  have hm := Nat.min_le_right (PyData.depthAll (qs.map pairD)) (pairD q).depth
  refine SeqAt.remove_list_data (vs := its.toArray) ⟨_, e, rfl, n, rfl⟩ (by simpa using ra) rb (pairsD_plain qs) (pairD_plain q) (by omega) (place_of hj) (by rw [List.size_toArray]; omega) ?_
  refine ⟨.non, _, I.lset (its' := its.eraseIdx j) (t' := s.toks) hH e ?_ (r.eraseIdx j) ?_, rfl, k⟩
  · show its.toArray.eraseIdxIfInBounds j = (its.eraseIdx j).toArray
    rw [List.eraseIdxIfInBounds_toArray]
  · exact Nat.le_trans (len_cut ys j) z
/-- the set of a tuple's whole numbers -/
def rSetOfI (K : PySem.W.Frag) (w : World) : List V → Hp → VK → Prop := fun vs H Q => ∃ (p : Addr) (ns : List Int), vs = [.ref p] ∧ SqT K H p (ns.map V.int) ∧ ns.length ≤ 1000 ∧ ∀ (a : Addr) (n : Nat), H a = none → n ≤ ns.length → Q (.ref a) (upd H a (SetO w a (fun j => decide (j ∈ ns)) n))
theorem cr_setOfI (hc : X.calm = true) : CallR X (.type "set") (rSetOfI X.K X.w) := by
  intro pins s σ H vs us Q I rv h
  obtain ⟨p, ns, rfl, hp, hl, k⟩ := h
  obtain ⟨u, rfl, ru⟩ := rv.one
  obtain rfl : u = Value.ref p := ru
  obtain ⟨its, r, pt, hz⟩ := I.tuple hp
  have hi : IntsAre its.toArray.toList ns := ints_of_vals r
  refine call_set_tupI ns (I.ok.hd hc) (show s.heap.IsTuple p its.toArray from pt) hi (by unfold scanBound; omega) fun h' tk c R1 hcn kp => ?_
  exact ⟨.ref _, _, I.laid (t' := tk) (o := SetO X.w s.heap.objs.size (fun j => decide (j ∈ ns)) c) kp (Nat.le_refl _) (setO_new R1), rfl, k _ c (I.hok.fresh (Nat.le_refl _)) hcn⟩
theorem k_setOfI {K : PySem.W.Frag} {w : World} (hc : X.calm = true) (e : X.K = K := by rfl) (ew : X.w = w := by rfl) : CallR X (.type "set") (rSetOfI K w) := e ▸ ew ▸ cr_setOfI hc
theorem k_removeP {K : PySem.W.Frag} (hu : X.A.units + 64 < cLine) (e : X.K = K := by rfl) : MtM X "list.remove" (rRemP K) := e ▸ mt_removeP hu
end
end SG

/-! The deck of the later laws: great cells, a mixed number, how many draws there were. -/
namespace SG
open PySem PySem.Spec PyProof.Rows L2
abbrev kT : Key := Sum.inr ("turn" : Str)
theorem kmt : ¬ kM = kT := by decide +kernel
abbrev kG : Key := Sum.inr ("cells" : Str)
theorem kgm : ¬ kG = kM := by decide +kernel
theorem kgd : ¬ kG = kT := by decide +kernel
def dekO (l : Addr) (m n : Int) : List (Key × V) := [(kG, .ref l), (kM, .int m), (kT, .int n)]
theorem dek_cells (l : Addr) (m n : Int) : valV (dekO l m n) kG = some (.ref l) := valV_pos rfl
theorem dek_mixed (l : Addr) (m n : Int) : valV (dekO l m n) kM = some (.int m) := (valV_neg kgm).trans (valV_pos rfl)
theorem dek_draws (l : Addr) (m n : Int) : valV (dekO l m n) kT = some (.int n) := (valV_neg kgd).trans ((valV_neg kmt).trans (valV_pos rfl))
theorem dek_put (l : Addr) (m n k : Int) : putK (dekO l m n) kT (.int k) = dekO l m k := by
  have e : (decide (kT = kT)) = true := decide_eq_true rfl
  show (if (decide (kG = kT) || (decide (kM = kT) || (decide (kT = kT) || false))) = true then [if kG = kT then (kG, V.int k) else (kG, V.ref l), if kM = kT then (kM, V.int k) else (kM, V.int m), if kT = kT then (kT, V.int k) else (kT, V.int n)] else _) = _
  rw [decide_eq_false kgd, decide_eq_false kmt, e, if_neg kgd, if_neg kmt, if_pos rfl]
  rfl
theorem dek_made (l : Addr) (m n : Int) : mergeK [] (dekO l m n) = dekO l m n := by
  have e1 : putK ([] : List (Key × V)) kG (.ref l) = [(kG, .ref l)] := rfl
  have e2 : putK [(kG, V.ref l)] kM (.int m) = [(kG, .ref l), (kM, .int m)] := by
    show (if (decide (kG = kM) || false) = true then _ else [(kG, V.ref l)] ++ [(kM, V.int m)]) = _
    rw [decide_eq_false kgm]
    rfl
  have e3 : putK [(kG, V.ref l), (kM, V.int m)] kT (.int n) = dekO l m n := by
    show (if (decide (kG = kT) || (decide (kM = kT) || false)) = true then _ else [(kG, V.ref l), (kM, V.int m)] ++ [(kT, V.int n)]) = _
    rw [decide_eq_false kgd, decide_eq_false kmt]
    rfl
  show putK (putK (putK [] kG (.ref l)) kM (.int m)) kT (.int n) = _
  rw [e1, e2, e3]

/-- a deck stands at d, its cells at l; it was asked at most c times -/
def Dek (H : Hp) (d l : Addr) (c : Nat) : Prop :=
  ∃ (cs : List Int) (m n : Int), H d = some (.dK (dekO l m n)) ∧ H l = some (.lst (cs.map V.int)) ∧ (0 ≤ m ∧ m < 2147483648) ∧ (0 ≤ n ∧ n ≤ (c : Int)) ∧ cs.length ≤ 63
theorem Dek.mono {H : Hp} {d l : Addr} {c e : Nat} (D : Dek H d l c) (h : c ≤ e) : Dek H d l e := by
  obtain ⟨cs, m, n, h1, h2, h3, h4, h5⟩ := D
  exact ⟨cs, m, n, h1, h2, h3, ⟨h4.1, by omega⟩, h5⟩
theorem Dek.same {H H1 : Hp} {d l : Addr} {c : Nat} (D : Dek H d l c) (s : Same H H1) : Dek H1 d l c := by
  obtain ⟨cs, m, n, h1, h2, h3⟩ := D
  exact ⟨cs, m, n, s _ _ h1, s _ _ h2, h3⟩
theorem Dek.upd {H : Hp} {d l p : Addr} {c : Nat} {o : HO} (D : Dek H d l c) (hp : H p = none) : Dek (upd H p o) d l c := by
  obtain ⟨cs, m, n, h1, h2, h3⟩ := D
  exact ⟨cs, m, n, by rw [upd_ne (ne_of_none h1 hp)]; exact h1, by rw [upd_ne (ne_of_none h2 hp)]; exact h2, h3⟩
/-- tuples stay -/
theorem Kept.tupG {K : PySem.W.Frag} {d l : Addr} {H H2 : Hp} {c : Nat} {a : Addr} {xs : List V} (k : Kept d l H H2) (D : Dek H d l c) (h : SqT K H a xs) : SqT K H2 a xs := by
  obtain ⟨cs, m, n, h1, h2, _⟩ := D
  rcases h with (h | ⟨o, h⟩) | h
  · exact .inl (.inl (k _ _ h (ne_of h h1 nofun) (ne_of h h2 nofun)))
  · exact .inl (.inr ⟨o, k _ _ h (ne_of h h1 nofun) (ne_of h h2 nofun)⟩)
  · exact .inr h
theorem gGreat {H : Hp} {d l : Addr} {m n : Int} (h : H d = some (.dK (dekO l m n))) : DGet H d (.str "cells") (some (.ref l)) := by
  have z := DGet.k (k := kG) h
  rw [dek_cells] at z
  exact z
theorem gMixed {H : Hp} {d l : Addr} {m n : Int} (h : H d = some (.dK (dekO l m n))) : DGet H d (.str "mixed") (some (.int m)) := by
  have z := DGet.k (k := kM) h
  rw [dek_mixed] at z
  exact z
theorem gDraws {H : Hp} {d l : Addr} {m n : Int} (h : H d = some (.dK (dekO l m n))) : DGet H d (.str "turn") (some (.int n)) := by
  have z := DGet.k (k := kT) h
  rw [dek_draws] at z
  exact z
theorem pDraws {H : Hp} {d l : Addr} {m n : Int} (k : Int) (h : H d = some (.dK (dekO l m n))) : DPut H d (.str "turn") (.int k) (upd H d (.dK (dekO l m k))) := by
  have z := DPut.k (k := kT) (v := .int k) h (by show 3 < sizeLine; decide)
  rw [dek_put] at z
  exact z
theorem Kept.lstG {K : PySem.W.Frag} {d l : Addr} {H H2 : Hp} {c : Nat} {a : Addr} {xs : List V} (k : Kept d l H H2) (D : Dek H d l c) (hl : a ≠ l) (h : SqL K H a xs) : SqL K H2 a xs := by
  obtain ⟨cs, m, n, h1, h2, _⟩ := D
  rcases h with (h | ⟨o, h⟩) | h
  · exact .inl (.inl (k _ _ h (ne_of h h1 nofun) hl))
  · exact .inl (.inr ⟨o, k _ _ h (ne_of h h1 nofun) hl⟩)
  · exact .inr h
theorem Dek.ne {H : Hp} {d l p : Addr} {c : Nat} (D : Dek H d l c) (h : H p = none) : p ≠ d ∧ p ≠ l := by
  obtain ⟨cs, m, n, h1, h2, _⟩ := D
  exact ⟨(ne_of_none h1 h).symm, (ne_of_none h2 h).symm⟩
/-- a list of values that are drawn, turn by turn -/
theorem lc_drawsG {d l D : Addr} {c n s : Nat} {te : TE} {σ : L2.St} {H1 : Hp} {Qd : Hp → Prop} {B : V → Prop} (D0 : Dek H1 d l c) (hD : H1 D = none) (hn : n ≤ 1000)
    (turn : ∀ (i : Nat) (H2 : Hp), i < n → Dek H2 d l (c + i) → Kept d l H1 H2 → ∀ R : VK, (∀ (x : V) (H3 : Hp), B x → Dek H3 d l (c + i + 1) → Kept d l H2 H3 → R x H3) → te ((wipe σ [s]).set s (some (.int (0 + i)))) H2 R)
    (done : ∀ (xs : List V) (H2 : Hp), xs.length = n → (∀ x ∈ xs, B x) → H2 D = some (.lst xs) → Dek H2 d l (c + n) → Kept d l H1 H2 → Qd H2) :
    ∃ W : Nat → Nat → Hp → Prop, (∃ m, W 0 m (upd H1 D (.lst []))) ∧ ∀ i m H, W i m H →
      ((Itr 0 n).stop i H ∧ Qd H) ∨ ((Itr 0 n).go i H ∧ ∃ Nx : Hp → Prop, (∀ H2, Nx H2 → ∃ m2, m2 < m ∧ W (i + 1) m2 H2) ∧ ∀ x H2, (Itr 0 n).yld i H x H2 → gName s x (wipe σ [s]) H2 fun σ2 H3 => wipe σ2 [s] = wipe σ [s] ∧ tYes σ2 H3 fun b H4 =>
        if b = true then te σ2 H4 fun y H5 => ∃ acc, H5 D = some (.lst acc) ∧ acc.length < sizeLine ∧ Nx (upd H5 D (.lst (acc ++ [y]))) else Nx H4) := by
  obtain ⟨nd, nl⟩ := D0.ne hD
  refine lc_range (fun i H2 => ∃ xs : List V, xs.length = i ∧ (∀ x ∈ xs, B x) ∧ H2 D = some (.lst xs) ∧ Dek H2 d l (c + i) ∧ Kept d l H1 H2) ?_ ?_ ?_
  · exact ⟨[], rfl, (fun _ h => absurd h List.not_mem_nil), upd_same, D0.upd hD, .of (same_new hD)⟩
  · rintro i H2 hi ⟨xs, hx, hB, hD2, D2, k2⟩
    refine ⟨wipe1 _ _ _, ?_⟩
    refine yesI ?_
    refine turn i H2 hi D2 k2 _ fun x H3 hb D3 k3 => ⟨xs, k3 _ _ hD2 nd nl, ?_, xs ++ [x], by simp [hx], fun y hy => ?_, upd_same, ?_, ?_⟩
    · rw [hx]
      exact small1000 (by omega)
    · rcases List.mem_append.mp hy with h | h
      · exact hB y h
      · rw [List.mem_singleton.mp h]; exact hb
    · obtain ⟨cs, m, k, h1, h2, h3⟩ := D3
      exact ⟨cs, m, k, by rw [upd_ne nd.symm]; exact h1, by rw [upd_ne nl.symm]; exact h2, h3⟩
    · intro b o e h1 h2
      rw [upd_ne (ne_of_none e hD)]
      exact k3 _ _ (k2 _ _ e h1 h2) h1 h2
  · rintro H2 ⟨xs, hx, hB, hD2, D2, k2⟩
    exact done xs H2 hx hB hD2 D2 k2

/-! ### comprehensions that make new objects alone -/
/-- all but lists stays -/
def Tups (H H' : Hp) : Prop := ∀ b o, H b = some o → (∀ zs, o ≠ .lst zs) → H' b = some o
theorem Tups.of {H H' : Hp} (s : Same H H') : Tups H H' := fun b o e _ => s b o e
theorem lc_same {J : It} {n : Nat} {G : Hp → Prop} {Y : Nat → Hp → V → Hp → Prop} (w : Walk J n G Y) {g : TG} {tt : TT} {te : TE} {vs : List Nat} {σ : L2.St} {H1 : Hp} {D : Addr} {Qd : Hp → Prop} (hn : n ≤ 1000) (hD : H1 D = none)
    (A : Nat → List V → Hp → Prop) (A0 : A 0 [] H1) (Am : ∀ i acc H H', Tups H H' → A i acc H → A i acc H') (hG : ∀ H, Same H1 H → G H)
    (turn : ∀ (i : Nat) (x : V) (acc : List V) (H2 H3 : Hp), i < n → Same H1 H2 → A i acc H2 → Y i H2 x H3 → ∀ (R : VK) (N : Hp → Prop), (∀ y H6, Same H2 H6 → A (i + 1) (acc ++ [y]) H6 → R y H6) → (∀ H6, Same H2 H6 → A (i + 1) acc H6 → N H6) →
      g x (wipe σ vs) H3 fun σ2 H4 => wipe σ2 vs = wipe σ vs ∧ tt σ2 H4 fun b H5 => if b = true then te σ2 H5 R else N H5)
    (done : ∀ (acc : List V) (H2 : Hp), Same H1 H2 → acc.length ≤ n → H2 D = some (.lst acc) → A n acc H2 → Qd H2) :
    ∃ W : Nat → Nat → Hp → Prop, (∃ m, W 0 m (upd H1 D (.lst []))) ∧ ∀ i m H, W i m H →
      (J.stop i H ∧ Qd H) ∨ (J.go i H ∧ ∃ Nx : Hp → Prop, (∀ H', Nx H' → ∃ m', m' < m ∧ W (i + 1) m' H') ∧ ∀ x H', J.yld i H x H' → g x (wipe σ vs) H' fun σ2 H2 => wipe σ2 vs = wipe σ vs ∧ tt σ2 H2 fun b H3 =>
        if b = true then te σ2 H3 fun y H4 => ∃ acc, H4 D = some (.lst acc) ∧ acc.length < sizeLine ∧ Nx (upd H4 D (.lst (acc ++ [y]))) else Nx H3) := by
  refine lc_it w (fun i H => Same H1 H ∧ ∃ acc, H D = some (.lst acc) ∧ acc.length ≤ i ∧ A i acc H) ⟨same_new hD, [], upd_same, Nat.le_refl _, Am _ _ _ _ (.of (same_new hD)) A0⟩ (fun i H _ q => hG H q.1) ?_ ?_
  · rintro i x H H' hi ⟨s, acc, hA, hl, a⟩ hy
    refine turn i x acc H H' hi s a hy _ _ (fun y H6 s6 a6 => ⟨acc, s6 _ _ hA, small1000 (by omega), same_upd_of (s.trans s6) hD, acc ++ [y], upd_same, by rw [List.length_append]; simpa using hl, Am _ _ _ _ ?_ a6⟩) fun H6 s6 a6 => ⟨s.trans s6, acc, s6 _ _ hA, by omega, a6⟩
    intro b o e nl
    have hb : b ≠ D := fun z => nl acc (Option.some.inj (e.symm.trans (by rw [z]; exact s6 _ _ hA)))
    rw [upd_ne hb]
    exact e
  · rintro H ⟨s, acc, hA, hl, a⟩
    exact done acc H s hl hA a
end SG

/-! Small data in which empty dicts stand; it stays while the deck is drawn from. -/
namespace SG
open PySem PySem.Spec PyProof.Rows L2
mutual
/-- whole numbers to m either way, plain texts of at most t signs, no dict but empty ones -/
def fitD (m t : Nat) : PyData → Bool
  | .int i => decide (i.natAbs ≤ m)
  | .str z => z.cps.toList.all (fun c => decide (c < 128)) && decide (z.length ≤ t)
  | .list xs => fitA m t xs
  | .tuple xs => fitA m t xs
  | .dict kvs => kvs.isEmpty
  | .none => true
  | .bool _ => true
def fitA (m t : Nat) : List PyData → Bool
  | [] => true
  | x :: xs => fitD m t x && fitA m t xs
end
mutual
theorem fit_told {m t : Nat} (hm : m < 10 ^ 4300) : ∀ D : PyData, fitD m t D = true → tellE D = true ∧ D.leavesShort 4302 = true
  | .int i, h => by
    have h : i.natAbs ≤ m := of_decide_eq_true (by simpa only [fitD] using h)
    have hi : i.natAbs < 10 ^ 4300 := Nat.lt_of_le_of_lt h hm
    exact ⟨by simp only [tellE]; exact decide_eq_true hi, (OkD.int hi).short⟩
  | .str z, h => by
    have h := h
    simp only [fitD, Bool.and_eq_true, List.all_eq_true, decide_eq_true_eq] at h
    refine ⟨by simp [tellE], ?_⟩
    simp only [PyData.leavesShort, List.all_eq_true, decide_eq_true_eq]
    exact fun c hc => Nat.lt_of_lt_of_le (h.1 c hc) (by decide)
  | .list xs, h => by
    have z := fitA_told (t := t) hm xs (by simpa only [fitD] using h)
    exact ⟨by simpa only [tellE] using z.1, by simpa only [PyData.leavesShort] using z.2⟩
  | .tuple xs, h => by
    have z := fitA_told (t := t) hm xs (by simpa only [fitD] using h)
    exact ⟨by simpa only [tellE] using z.1, by simpa only [PyData.leavesShort] using z.2⟩
  | .dict [], _ => by simp [tellE, PyData.leavesShort, PyData.leavesShortKv]
  | .dict (_ :: _), h => by simp [fitD] at h
  | .none, _ => by simp [tellE, PyData.leavesShort]
  | .bool _, _ => by simp [tellE, PyData.leavesShort]
theorem fitA_told {m t : Nat} (hm : m < 10 ^ 4300) : ∀ ds : List PyData, fitA m t ds = true → tellEAll ds = true ∧ PyData.leavesShortAll 4302 ds = true
  | [], _ => by simp [tellEAll, PyData.leavesShortAll]
  | d :: ds, h => by
    have h2 : fitD m t d = true ∧ fitA m t ds = true := by simpa only [fitA, Bool.and_eq_true] using h
    have z1 := fit_told hm d h2.1
    have z2 := fitA_told hm ds h2.2
    simp only [tellEAll, PyData.leavesShortAll, z1.1, z1.2, z2.1, z2.2, Bool.and_self, and_self]
end
mutual
theorem fit_mono {m t m2 t2 : Nat} (h1 : m ≤ m2) (h2 : t ≤ t2) : ∀ D : PyData, fitD m t D = true → fitD m2 t2 D = true
  | .int i, h => by
    have h : i.natAbs ≤ m := of_decide_eq_true (by simpa only [fitD] using h)
    simp only [fitD]
    exact decide_eq_true (by omega)
  | .str z, h => by
    simp only [fitD, Bool.and_eq_true, decide_eq_true_eq] at h ⊢
    exact ⟨h.1, by omega⟩
  | .list xs, h => by
    simp only [fitD] at h ⊢
    exact fitA_mono h1 h2 xs h
  | .tuple xs, h => by
    simp only [fitD] at h ⊢
    exact fitA_mono h1 h2 xs h
  | .dict _, h => by simpa only [fitD] using h
  | .none, _ => by simp [fitD]
  | .bool _, _ => by simp [fitD]
theorem fitA_mono {m t m2 t2 : Nat} (h1 : m ≤ m2) (h2 : t ≤ t2) : ∀ ds : List PyData, fitA m t ds = true → fitA m2 t2 ds = true
  | [], _ => by simp [fitA]
  | d :: ds, h => by
    have h3 : fitD m t d = true ∧ fitA m t ds = true := by simpa only [fitA, Bool.and_eq_true] using h
    simp only [fitA, fit_mono h1 h2 d h3.1, fitA_mono h1 h2 ds h3.2, Bool.and_self]
end
theorem fitA_mem {m t : Nat} : ∀ {ds : List PyData}, fitA m t ds = true → ∀ d ∈ ds, fitD m t d = true
  | d :: ds, h, e, he => by
    have h3 : fitD m t d = true ∧ fitA m t ds = true := by simpa only [fitA, Bool.and_eq_true] using h
    rcases List.mem_cons.mp he with rfl | he
    · exact h3.1
    · exact fitA_mem h3.2 e he
theorem fitA_of {m t : Nat} : ∀ {ds : List PyData}, (∀ d ∈ ds, fitD m t d = true) → fitA m t ds = true
  | [], _ => by simp [fitA]
  | d :: ds, h => by simp only [fitA, h d List.mem_cons_self, fitA_of fun e he => h e (List.mem_cons_of_mem _ he), Bool.and_self]
theorem bulkA_app : ∀ (a b : List PyData), PyData.bulkAll (a ++ b) = PyData.bulkAll a + PyData.bulkAll b
  | [], b => by simp [PyData.bulkAll]
  | d :: a, b => by
    have := bulkA_app a b
    simp only [List.cons_append, PyData.bulkAll, this]
    omega
theorem bulkA_rev : ∀ a : List PyData, PyData.bulkAll a.reverse = PyData.bulkAll a
  | [] => rfl
  | d :: a => by
    have := bulkA_rev a
    rw [List.reverse_cons, bulkA_app, this]
    simp only [PyData.bulkAll]
    omega
theorem bulkA_take (a : List PyData) (n : Nat) : PyData.bulkAll (a.take n) ≤ PyData.bulkAll a := by
  have := bulkA_app (a.take n) (a.drop n)
  rw [List.take_append_drop] at this
  omega
theorem bulkA_drop (a : List PyData) (n : Nat) : PyData.bulkAll (a.drop n) ≤ PyData.bulkAll a := by
  have := bulkA_app (a.take n) (a.drop n)
  rw [List.take_append_drop] at this
  omega
theorem bulkA_mem : ∀ {a : List PyData} {d : PyData}, d ∈ a → d.bulk + 1 ≤ PyData.bulkAll a
  | e :: a, d, h => by
    simp only [PyData.bulkAll]
    rcases List.mem_cons.mp h with rfl | h
    · omega
    · have := bulkA_mem h
      omega
theorem bulkA_len : ∀ a : List PyData, a.length ≤ PyData.bulkAll a
  | [] => Nat.zero_le _
  | d :: a => by
    have := bulkA_len a
    simp only [PyData.bulkAll, List.length_cons]
    omega
theorem depthA_of {n : Nat} : ∀ {ds : List PyData}, (∀ d ∈ ds, d.depth ≤ n) → PyData.depthAll ds ≤ n
  | [], _ => by simp [PyData.depthAll]
  | d :: ds, h => by
    simp only [PyData.depthAll]
    exact Nat.max_le.mpr ⟨h d List.mem_cons_self, depthA_of fun e he => h e (List.mem_cons_of_mem _ he)⟩
/-- small: how deep, how much in all, how great its numbers, how long its texts -/
structure Sx (n b m t : Nat) (D : PyData) : Prop where
  dep : D.depth ≤ n
  bulk : D.bulk ≤ b
  fit : fitD m t D = true
structure SxA (n b m t : Nat) (ds : List PyData) : Prop where
  dep : ∀ d ∈ ds, d.depth ≤ n
  bulk : PyData.bulkAll ds ≤ b
  fit : ∀ d ∈ ds, fitD m t d = true
section
variable {n b m t n2 b2 m2 t2 : Nat} {D : PyData} {ds es : List PyData}
theorem Sx.mono (h : Sx n b m t D) (h1 : n ≤ n2) (h2 : b ≤ b2) (h3 : m ≤ m2) (h4 : t ≤ t2) : Sx n2 b2 m2 t2 D := ⟨Nat.le_trans h.dep h1, Nat.le_trans h.bulk h2, fit_mono h3 h4 _ h.fit⟩
theorem SxA.mono (h : SxA n b m t ds) (h1 : n ≤ n2) (h2 : b ≤ b2) (h3 : m ≤ m2) (h4 : t ≤ t2) : SxA n2 b2 m2 t2 ds := ⟨fun d hd => Nat.le_trans (h.dep d hd) h1, Nat.le_trans h.bulk h2, fun d hd => fit_mono h3 h4 _ (h.fit d hd)⟩
theorem SxA.tuple (h : SxA n b m t ds) : Sx (n + 1) b m t (.tuple ds) := ⟨by simp only [PyData.depth]; have := depthA_of h.dep; omega, by simpa only [PyData.bulk] using h.bulk, by simp only [fitD]; exact fitA_of h.fit⟩
theorem SxA.list (h : SxA n b m t ds) : Sx (n + 1) b m t (.list ds) := ⟨by simp only [PyData.depth]; have := depthA_of h.dep; omega, by simpa only [PyData.bulk] using h.bulk, by simp only [fitD]; exact fitA_of h.fit⟩
theorem Sx.items (h : Sx n b m t (.tuple ds)) : 1 ≤ n ∧ SxA (n - 1) b m t ds := by
  have h1 := h.dep
  simp only [PyData.depth] at h1
  refine ⟨by omega, fun d hd => ?_, by simpa only [PyData.bulk] using h.bulk, fitA_mem (by simpa only [fitD] using h.fit)⟩
  have := depth_mem hd
  omega
theorem SxA.nil : SxA n b m t [] := ⟨fun _ h => (nomatch h), by simp [PyData.bulkAll], fun _ h => (nomatch h)⟩
theorem SxA.app (h : SxA n b m t ds) (k : SxA n b2 m t es) : SxA n (b + b2) m t (ds ++ es) :=
  ⟨fun d hd => (List.mem_append.mp hd).elim (h.dep d) (k.dep d), by rw [bulkA_app]; have := h.bulk; have := k.bulk; omega, fun d hd => (List.mem_append.mp hd).elim (h.fit d) (k.fit d)⟩
theorem SxA.one (h : Sx n b m t D) : SxA n (b + 1) m t [D] := ⟨fun d hd => by rw [List.mem_singleton.mp hd]; exact h.dep, by simp only [PyData.bulkAll]; have := h.bulk; omega, fun d hd => by rw [List.mem_singleton.mp hd]; exact h.fit⟩
theorem SxA.take (h : SxA n b m t ds) (k : Nat) : SxA n b m t (ds.take k) := ⟨fun d hd => h.dep d (List.mem_of_mem_take hd), Nat.le_trans (bulkA_take _ _) h.bulk, fun d hd => h.fit d (List.mem_of_mem_take hd)⟩
theorem SxA.drop (h : SxA n b m t ds) (k : Nat) : SxA n b m t (ds.drop k) := ⟨fun d hd => h.dep d (List.mem_of_mem_drop hd), Nat.le_trans (bulkA_drop _ _) h.bulk, fun d hd => h.fit d (List.mem_of_mem_drop hd)⟩
theorem SxA.rev (h : SxA n b m t ds) : SxA n b m t ds.reverse := ⟨fun d hd => h.dep d (List.mem_reverse.mp hd), by rw [bulkA_rev]; exact h.bulk, fun d hd => h.fit d (List.mem_reverse.mp hd)⟩
theorem Sx.short (h : Sx n b m t D) (hb : b ≤ 3000) (hm : m < 10 ^ 4300) : D.shown.length ≤ sizeLine := by
  have z := PyData.shown_le_bulk 4302 (by decide) D (fit_told hm D h.fit).2
  have z2 : (4302 + 2) * D.bulk ≤ 4304 * 3000 := Nat.mul_le_mul (Nat.le_refl _) (Nat.le_trans h.bulk hb)
  rw [sizeLine_eq]
  omega
end
/-! ### what stays while the deck is drawn from -/
mutual
/-- v is the data D, held by no object of the deck -/
inductive Dy (K : PySem.W.Frag) (d l : Addr) (H : Hp) : V → PyData → Prop
  | non : Dy K d l H .non .none
  | bl (b : Bool) : Dy K d l H (.bl b) (.bool b)
  | int (i : Int) : Dy K d l H (.int i) (.int i)
  | str (z : Str) : Dy K d l H (.str z) (.str z)
  | lst {p : Addr} {xs : List V} {es : List PyData} (hq : H p = some (.lst xs)) (n1 : p ≠ d) (n2 : p ≠ l) (ha : DyAll K d l H xs es) : Dy K d l H (.ref p) (.list es)
  | tup {p : Addr} {xs : List V} {es : List PyData} (hq : SqT K H p xs) (ha : DyAll K d l H xs es) : Dy K d l H (.ref p) (.tuple es)
  | dct {p : Addr} (hp : H p = some (.dK [])) (n1 : p ≠ d) (n2 : p ≠ l) : Dy K d l H (.ref p) (.dict [])
inductive DyAll (K : PySem.W.Frag) (d l : Addr) (H : Hp) : List V → List PyData → Prop
  | nil : DyAll K d l H [] []
  | cons {x : V} {xs : List V} {e : PyData} {es : List PyData} (hx : Dy K d l H x e) (ht : DyAll K d l H xs es) : DyAll K d l H (x :: xs) (e :: es)
end
section
variable {K : PySem.W.Frag} {d l : Addr} {c : Nat} {H H2 : Hp}
mutual
theorem dy_dx : ∀ {x : V} {D : PyData}, Dy K d l H x D → Dx K H x D
  | _, _, .non => .non
  | _, _, .bl b => .bl b
  | _, _, .int i => .int i
  | _, _, .str t => .str t
  | _, _, .lst q _ _ a => .lst (SqL.of q) (dyA_dx a)
  | _, _, .tup q a => .tup q (dyA_dx a)
  | _, _, .dct h _ _ => .dct h
theorem dyA_dx : ∀ {xs : List V} {ds : List PyData}, DyAll K d l H xs ds → DxAll K H xs ds
  | _, _, .nil => .nil
  | _, _, .cons a b => .cons (dy_dx a) (dyA_dx b)
end
mutual
theorem dy_kept (Dk : Dek H d l c) (k : Kept d l H H2) : ∀ {x : V} {D : PyData}, Dy K d l H x D → Dy K d l H2 x D
  | _, _, .non => .non
  | _, _, .bl b => .bl b
  | _, _, .int i => .int i
  | _, _, .str t => .str t
  | _, _, .lst q n1 n2 a => .lst (k _ _ q n1 n2) n1 n2 (dyA_kept Dk k a)
  | _, _, .tup q a => .tup (k.tupG Dk q) (dyA_kept Dk k a)
  | _, _, .dct h n1 n2 => .dct (k _ _ h n1 n2) n1 n2
theorem dyA_kept (Dk : Dek H d l c) (k : Kept d l H H2) : ∀ {xs : List V} {ds : List PyData}, DyAll K d l H xs ds → DyAll K d l H2 xs ds
  | _, _, .nil => .nil
  | _, _, .cons a b => .cons (dy_kept Dk k a) (dyA_kept Dk k b)
end
mutual
theorem dy_same (s : Same H H2) : ∀ {x : V} {D : PyData}, Dy K d l H x D → Dy K d l H2 x D
  | _, _, .non => .non
  | _, _, .bl b => .bl b
  | _, _, .int i => .int i
  | _, _, .str t => .str t
  | _, _, .lst q n1 n2 a => .lst (s _ _ q) n1 n2 (dyA_same s a)
  | _, _, .tup q a => .tup (sameT s q) (dyA_same s a)
  | _, _, .dct h n1 n2 => .dct (s _ _ h) n1 n2
theorem dyA_same (s : Same H H2) : ∀ {xs : List V} {ds : List PyData}, DyAll K d l H xs ds → DyAll K d l H2 xs ds
  | _, _, .nil => .nil
  | _, _, .cons a b => .cons (dy_same s a) (dyA_same s b)
end
theorem dyA_len : ∀ {xs : List V} {ds : List PyData}, DyAll K d l H xs ds → xs.length = ds.length
  | _, _, .nil => rfl
  | _, _, .cons _ b => congrArg (· + 1) (dyA_len b)
theorem dyA_get : ∀ {xs : List V} {ds : List PyData} {i : Nat} {x : V}, DyAll K d l H xs ds → xs[i]? = some x → ∃ D, ds[i]? = some D ∧ Dy K d l H x D
  | _, _, _, _, .nil, e => by simp at e
  | _, _, 0, _, .cons a b, e => by
    simp at e
    subst e
    exact ⟨_, rfl, a⟩
  | _, _, i + 1, x, .cons a b, e => by
    obtain ⟨D, h1, h2⟩ := dyA_get (i := i) (x := x) b (by simpa using e)
    exact ⟨D, by simpa using h1, h2⟩
theorem dyA_app : ∀ {xs ys : List V} {ds es : List PyData}, DyAll K d l H xs ds → DyAll K d l H ys es → DyAll K d l H (xs ++ ys) (ds ++ es)
  | _, _, _, _, .nil, h => h
  | _, _, _, _, .cons a b, h => .cons a (dyA_app b h)
theorem dyA_take : ∀ {xs : List V} {ds : List PyData} (n : Nat), DyAll K d l H xs ds → DyAll K d l H (xs.take n) (ds.take n)
  | _, _, 0, _ => .nil
  | _, _, _ + 1, .nil => .nil
  | _, _, n + 1, .cons a b => .cons a (dyA_take n b)
theorem dyA_drop : ∀ {xs : List V} {ds : List PyData} (n : Nat), DyAll K d l H xs ds → DyAll K d l H (xs.drop n) (ds.drop n)
  | _, _, 0, h => h
  | _, _, _ + 1, .nil => .nil
  | _, _, n + 1, .cons a b => dyA_drop n b
theorem dyA_rev : ∀ {xs : List V} {ds : List PyData}, DyAll K d l H xs ds → DyAll K d l H xs.reverse ds.reverse
  | _, _, .nil => .nil
  | _, _, .cons a b => by
    rw [List.reverse_cons, List.reverse_cons]
    exact dyA_app (dyA_rev b) (.cons a .nil)
theorem dyA_ints : ∀ ns : List Int, DyAll K d l H (ns.map V.int) (dI ns)
  | [] => .nil
  | n :: ns => .cons (.int n) (dyA_ints ns)
theorem dy_tuple {x : V} {ds : List PyData} (h : Dy K d l H x (.tuple ds)) : ∃ a xs, x = .ref a ∧ SqT K H a xs ∧ DyAll K d l H xs ds := by
  cases h with
  | tup q a => exact ⟨_, _, rfl, q, a⟩
/-- a part cut out -/
theorem dyA_cut {xs : List V} {ds : List PyData} (h : DyAll K d l H xs ds) {n b m t : Nat} (s : SxA n b m t ds) (lo hi : Option Int) : ∃ es, DyAll K d l H (cutV xs lo hi) es ∧ SxA n b m t es :=
  ⟨_, dyA_take _ (dyA_drop _ h), (s.drop _).take _⟩
end
end SG

/-! Readings of literals and parts that give small data, while a deck stands. -/
namespace SG
open PySem PySem.Spec PyProof.Rows L2
/-! ### plain texts -/
def Asc (z : Str) : Prop := ∀ c ∈ z.cps.toList, c < 128
theorem Sx.str {n b m t : Nat} {z : Str} (h : Asc z) (h1 : z.length ≤ t) (h2 : z.length ≤ b) : Sx n b m t (.str z) :=
  ⟨by simp [PyData.depth], by simp only [PyData.bulk]; exact h2, by simp only [fitD, Bool.and_eq_true, List.all_eq_true, decide_eq_true_eq]; exact ⟨h, h1⟩⟩
theorem Sx.int {n b m t : Nat} {i : Int} (h : i.natAbs ≤ m) : Sx n b m t (.int i) := ⟨by simp [PyData.depth], by simp [PyData.bulk], by simp only [fitD]; exact decide_eq_true h⟩
theorem Sx.bool {n b m t : Nat} (k : Bool) : Sx n b m t (.bool k) := ⟨by simp [PyData.depth], by simp [PyData.bulk], by simp [fitD]⟩
theorem Sx.none {n b m t : Nat} : Sx n b m t .none := ⟨by simp [PyData.depth], by simp [PyData.bulk], by simp [fitD]⟩
theorem Sx.dict0 {n b m t : Nat} (hn : 1 ≤ n) : Sx n b m t (.dict []) := ⟨by simp only [PyData.depth, PyData.depthKv]; omega, by simp [PyData.bulk, PyData.bulkKv], by simp [fitD]⟩
theorem Sx.asc {n b m t : Nat} {z : Str} (h : Sx n b m t (.str z)) : Asc z ∧ z.length ≤ t ∧ z.length ≤ b := by
  have f := h.fit
  have k := h.bulk
  simp only [fitD, Bool.and_eq_true, List.all_eq_true, decide_eq_true_eq] at f
  simp only [PyData.bulk] at k
  exact ⟨f.1, f.2, k⟩
theorem asc_cat {a b : Str} (ha : Asc a) (hb : Asc b) : Asc (a ++ b) := fun c hc => by
  have e : (a ++ b).cps.toList = a.cps.toList ++ b.cps.toList := TL.tl_append a b
  rw [e] at hc
  exact (List.mem_append.mp hc).elim (ha c) (hb c)
theorem len_cat (a b : Str) : (a ++ b).length = a.length + b.length := by
  have e : (a ++ b).cps.toList = a.cps.toList ++ b.cps.toList := TL.tl_append a b
  have := congrArg List.length e
  rw [List.length_append] at this
  simpa [Str.length] using this
theorem asc_upper1 : ∀ c, c < 128 → (Unicode.upperOf c).all (fun e => decide (e < 128)) = true ∧ (Unicode.upperOf c).length = 1 := by decide +kernel
theorem upper_list (z : Str) : (Txt.upper z).cps.toList = z.cps.toList.flatMap Unicode.upperOf := by
  unfold Txt.upper placed
  show ((z.cps.mapIdx fun _ c => (Unicode.upperOf c).toArray).flatten).toList = _
  rw [Array.toList_flatten, Array.toList_mapIdx]
  have e : (z.cps.toList.mapIdx fun _ c => (Unicode.upperOf c).toArray) = z.cps.toList.map fun c => (Unicode.upperOf c).toArray := by
    refine List.ext_getElem (by simp) fun i h1 h2 => by simp
  rw [e, List.map_map]
  rfl
theorem asc_upper {z : Str} (h : Asc z) : Asc (Txt.upper z) ∧ (Txt.upper z).length = z.length := by
  have e := upper_list z
  constructor
  · intro c hc
    rw [e] at hc
    obtain ⟨x, hx, hc⟩ := List.mem_flatMap.mp hc
    have := List.all_eq_true.mp (asc_upper1 x (h x hx)).1 c hc
    exact of_decide_eq_true this
  · have l := congrArg List.length e
    have k : ∀ xs : List Nat, (∀ c ∈ xs, c < 128) → (xs.flatMap Unicode.upperOf).length = xs.length := by
      intro xs
      induction xs with
      | nil => intro _; rfl
      | cons a r ih =>
        intro hh
        rw [List.flatMap_cons, List.length_append, ih fun c hc => hh c (List.mem_cons_of_mem _ hc), (asc_upper1 a (hh a List.mem_cons_self)).2, List.length_cons]
        omega
    rw [k _ h] at l
    simpa [Str.length] using l
theorem cut_mem {z : Str} (lo hi : Option Int) (h : Asc z) : Asc (cutS z lo hi) ∧ (cutS z lo hi).length ≤ z.length := by
  refine ⟨fun c hc => ?_, cutS_length z lo hi⟩
  refine h c ?_
  have hc2 : c ∈ ((z.cps.toList.drop (HT.sIx z.length 0 lo)).take (HT.sIx z.length z.length hi - HT.sIx z.length 0 lo)).toArray.toList := hc
  exact List.mem_of_mem_drop (List.mem_of_mem_take hc2)
theorem num_asc (D : PyData) : Asc (numT D) := by
  have hi : ∀ i : Int, Asc (Str.ofString (toString i)) := by
    intro i c hc
    rw [signs_ofString] at hc
    obtain ⟨ch, h1, rfl⟩ := List.mem_map.mp hc
    rcases int_sign i ch h1 with h | rfl
    · have := digit_range h
      omega
    · decide
  have hx : ∀ c ∈ ("" : Str).cps.toList, c < 128 := by decide +kernel
  cases D with
  | int i => exact hi i
  | bool k => cases k <;> (show ∀ c ∈ _, _) <;> decide +kernel
  | none => exact hx
  | str _ => exact hx
  | list _ => exact hx
  | tuple _ => exact hx
  | dict _ => exact hx
/-! ### readings -/
/-- x is small data, no object of the deck -/
def Itm (K : PySem.W.Frag) (d l : Addr) (n b m t : Nat) (H : Hp) (x : V) : Prop := ∃ D, Dy K d l H x D ∧ Sx n b m t D
theorem Itm.same {K : PySem.W.Frag} {d l : Addr} {n b m t : Nat} {H H2 : Hp} {x : V} (s : Same H H2) (h : Itm K d l n b m t H x) : Itm K d l n b m t H2 x := by
  obtain ⟨D, h1, h2⟩ := h
  exact ⟨D, dy_same s h1, h2⟩
theorem Itm.kept {K : PySem.W.Frag} {d l : Addr} {c n b m t : Nat} {H H2 : Hp} {x : V} (Dk : Dek H d l c) (k : Kept d l H H2) (h : Itm K d l n b m t H x) : Itm K d l n b m t H2 x := by
  obtain ⟨D, h1, h2⟩ := h
  exact ⟨D, dy_kept Dk k h1, h2⟩
theorem Itm.mono {K : PySem.W.Frag} {d l : Addr} {n b m t n2 b2 m2 t2 : Nat} {H : Hp} {x : V} (h : Itm K d l n b m t H x) (h1 : n ≤ n2) (h2 : b ≤ b2) (h3 : m ≤ m2) (h4 : t ≤ t2) : Itm K d l n2 b2 m2 t2 H x := by
  obtain ⟨D, e1, e2⟩ := h
  exact ⟨D, e1, e2.mono h1 h2 h3 h4⟩
section
variable {K : PySem.W.Frag} {d l : Addr} {c n b m t : Nat} {σ : L2.St} {H0 : Hp}
/-- te gives the data D -/
def WdE (K : PySem.W.Frag) (d l : Addr) (c : Nat) (σ : L2.St) (H0 : Hp) (te : TE) (D : PyData) : Prop := ∀ (H : Hp) (Q : VK), Same H0 H → Dek H d l c → (∀ x H2, Same H H2 → Dek H2 d l c → Dy K d l H2 x D → Q x H2) → te σ H Q
def WdA (K : PySem.W.Frag) (d l : Addr) (c : Nat) (σ : L2.St) (H0 : Hp) (ta : TA) (ds : List PyData) : Prop := ∀ (H : Hp) (Q : List V → Hp → Prop), Same H0 H → Dek H d l c → (∀ xs H2, Same H H2 → Dek H2 d l c → DyAll K d l H2 xs ds → Q xs H2) → ta σ H Q
/-- te gives small data -/
def WxE (K : PySem.W.Frag) (d l : Addr) (c n b m t : Nat) (σ : L2.St) (H0 : Hp) (te : TE) : Prop := ∀ (H : Hp) (Q : VK), Same H0 H → Dek H d l c → (∀ x H2, Same H H2 → Dek H2 d l c → Itm K d l n b m t H2 x → Q x H2) → te σ H Q
def WxA (K : PySem.W.Frag) (d l : Addr) (c n b m t : Nat) (σ : L2.St) (H0 : Hp) (ta : TA) (N : Nat) : Prop := ∀ (H : Hp) (Q : List V → Hp → Prop), Same H0 H → Dek H d l c → (∀ xs H2, Same H H2 → Dek H2 d l c → (∀ x ∈ xs, Itm K d l n b m t H2 x) → xs.length = N → Q xs H2) → ta σ H Q
theorem WdE.to {te : TE} {D : PyData} (a : WdE K d l c σ H0 te D) (s : Sx n b m t D) : WxE K d l c n b m t σ H0 te := fun H Q s0 dk q => a H Q s0 dk fun x H2 s2 dk2 h => q x H2 s2 dk2 ⟨D, h, s⟩
theorem WdE.v {i : Nat} {x : V} {D : PyData} (e : σ[i]? = some (some x)) (h : Dy K d l H0 x D) : WdE K d l c σ H0 (tVar i) D := fun H Q s dk q => ⟨x, e, q x H (Same.refl _) dk (dy_same s h)⟩
theorem WdE.con {v : V} {D : PyData} (h : ∀ H, Dy K d l H v D) : WdE K d l c σ H0 (tC v) D := fun H Q _ dk q => q v H (Same.refl _) dk (h H)
theorem WdE.non : WdE K d l c σ H0 (tC .non) .none := .con fun _ => .non
theorem WdE.bl {k : Bool} : WdE K d l c σ H0 (tC (.bl k)) (.bool k) := .con fun _ => .bl k
theorem WdE.int {i : Int} : WdE K d l c σ H0 (tC (.int i)) (.int i) := .con fun _ => .int i
theorem WdE.str {z : Str} : WdE K d l c σ H0 (tC (.str z)) (.str z) := .con fun _ => .str z
theorem WdE.neg {i : Int} : WdE K d l c σ H0 (tUn (rU fun j => V.int (-j)) (tC (.int i))) (.int (-i)) := fun H Q _ dk q => ⟨i, rfl, q _ H (Same.refl _) dk (.int _)⟩
theorem WdE.dct : WdE K d l c σ H0 tDNewK (.dict []) := fun H Q _ dk q p np => q (.ref p) _ (same_new np) (dk.upd np) (.dct upd_same (dk.ne np).1 (dk.ne np).2)
theorem WdA.nil : WdA K d l c σ H0 tNil [] := fun H Q _ dk q => q [] H (Same.refl _) dk .nil
theorem WdA.cons {te : TE} {ta : TA} {D : PyData} {ds : List PyData} (a : WdE K d l c σ H0 te D) (k : WdA K d l c σ H0 ta ds) : WdA K d l c σ H0 (tCons te ta) (D :: ds) := fun H Q s dk q =>
  a H _ s dk fun x H1 s1 dk1 h1 => k H1 _ (s.trans s1) dk1 fun xs H2 s2 dk2 h2 => q (x :: xs) H2 (s1.trans s2) dk2 (.cons (dy_same s2 h1) h2)
theorem WdE.tup {ta : TA} {ds : List PyData} (a : WdA K d l c σ H0 ta ds) (hl : ds.length ≤ 1000) : WdE K d l c σ H0 (tTup ta) (.tuple ds) := fun H Q s dk q =>
  a H _ s dk fun xs H1 s1 dk1 h1 => ⟨Nat.le_of_lt (small1000 (by rw [dyA_len h1]; exact hl)), fun p np => q (.ref p) _ (s1.trans (same_new np)) (dk1.upd np) (.tup (.inl (.inl upd_same)) (dyA_same (same_new np) h1))⟩
theorem WdE.lst {ta : TA} {ds : List PyData} (a : WdA K d l c σ H0 ta ds) (hl : ds.length ≤ 1000) : WdE K d l c σ H0 (tLst ta) (.list ds) := fun H Q s dk q =>
  a H _ s dk fun xs H1 s1 dk1 h1 => ⟨Nat.le_of_lt (small1000 (by rw [dyA_len h1]; exact hl)), fun p np => q (.ref p) _ (s1.trans (same_new np)) (dk1.upd np) (.lst upd_same (dk1.ne np).1 (dk1.ne np).2 (dyA_same (same_new np) h1))⟩
theorem WdE.listOf {te : TE} {ds : List PyData} (a : WdE K d l c σ H0 te (.tuple ds)) : WdE K d l c σ H0 (tCB (rListOf K) (tCons te tNil)) (.list ds) := fun H Q s dk q =>
  a H _ s dk fun x H1 s1 dk1 h1 => by
    obtain ⟨p, xs, rfl, hp, ha⟩ := dy_tuple h1
    exact ⟨p, xs, rfl, .inr hp, fun r nr => q (.ref r) _ (s1.trans (same_new nr)) (dk1.upd nr) (.lst upd_same (dk1.ne nr).1 (dk1.ne nr).2 (dyA_same (same_new nr) ha))⟩
theorem WdE.cat {t1 t2 : TE} {ds es : List PyData} (a : WdE K d l c σ H0 t1 (.tuple ds)) (k : WdE K d l c σ H0 t2 (.tuple es)) (hl : ds.length + es.length ≤ 1000) : WdE K d l c σ H0 (tOp (rCatU K) t1 t2) (.tuple (ds ++ es)) := fun H Q s dk q =>
  a H _ s dk fun x H1 s1 dk1 h1 => k H1 _ (s.trans s1) dk1 fun y H2 s2 dk2 h2 => by
    obtain ⟨p, xs, rfl, hp, ha⟩ := dy_tuple (dy_same s2 h1)
    obtain ⟨r, ys, rfl, hr, hb⟩ := dy_tuple h2
    have e1 := dyA_len ha
    have e2 := dyA_len hb
    exact ⟨p, r, xs, ys, rfl, rfl, hp, hr, Nat.le_of_lt (small1000 (by omega)), fun z H3 s3 h3 => q (.ref z) H3 ((s1.trans s2).trans s3) (dk2.same s3) (.tup h3 (dyA_same s3 (dyA_app ha hb)))⟩
/-- what a part of a list is -/
def cutD (ds : List PyData) (lo hi : Option Int) : List PyData := (ds.drop (HT.sIx ds.length 0 lo)).take (HT.sIx ds.length ds.length hi - HT.sIx ds.length 0 lo)
def Pt (σ : L2.St) (tp : TO) (o : Option Int) : Prop := ∀ (H : Hp) (Q : Option Int → Hp → Prop), Q o H → tp σ H Q
theorem Pt.no : Pt σ tNoPart none := fun _ _ q => q
theorem Pt.int {i : Int} : Pt σ (tPart (tC (.int i))) (some i) := fun _ _ q => ⟨i, rfl, q⟩
theorem Pt.neg {i : Int} : Pt σ (tPart (tUn (rU fun j => V.int (-j)) (tC (.int i)))) (some (-i)) := fun _ _ q => ⟨i, rfl, -i, rfl, q⟩
theorem Pt.var {i : Nat} {j : Int} (e : σ[i]? = some (some (.int j))) : Pt σ (tPart (tVar i)) (some j) := fun _ _ q => ⟨_, e, j, rfl, q⟩
theorem Pt.var1 {i : Nat} {j : Int} (e : σ[i]? = some (some (.int j))) : Pt σ (tPart (tOp (rI0 fun i j => V.int (i + j)) (tVar i) (tC (.int 1)))) (some (j + 1)) := fun _ _ q => ⟨_, e, _, _, rfl, rfl, j + 1, rfl, q⟩
theorem WdE.slc {te : TE} {lo hi : TO} {o1 o2 : Option Int} {ds : List PyData} (a : WdE K d l c σ H0 te (.tuple ds)) (h1 : Pt σ lo o1) (h2 : Pt σ hi o2) : WdE K d l c σ H0 (tSl (rSlU K) te lo hi) (.tuple (cutD ds o1 o2)) := fun H Q s dk q =>
  a H _ s dk fun x H1 s1 dk1 hx => h1 _ _ (h2 _ _ (by
    obtain ⟨p, xs, rfl, hp, ha⟩ := dy_tuple hx
    refine ⟨p, xs, rfl, hp, fun z H3 s3 h3 => q (.ref z) H3 (s1.trans s3) (dk1.same s3) (.tup h3 (dyA_same s3 ?_))⟩
    have e := dyA_len ha
    unfold cutV cutD
    rw [← e]
    exact dyA_take _ (dyA_drop _ ha)))
theorem WdE.rev {te : TE} {ds : List PyData} (a : WdE K d l c σ H0 te (.tuple ds)) : WdE K d l c σ H0 (tRevX K te) (.tuple ds.reverse) := fun H Q s dk q =>
  a H _ s dk fun x H1 s1 dk1 hx => by
    obtain ⟨p, xs, rfl, hp, ha⟩ := dy_tuple hx
    exact .inl ⟨p, xs, rfl, hp, fun r nr => q (.ref r) _ (s1.trans (same_new nr)) (dk1.upd nr) (.tup (.inl (.inl upd_same)) (dyA_same (same_new nr) (dyA_rev ha)))⟩
theorem WxA.nil : WxA K d l c n b m t σ H0 tNil 0 := fun H Q _ dk q => q [] H (Same.refl _) dk (fun _ h => (nomatch h)) rfl
theorem WxA.cons {te : TE} {ta : TA} {N : Nat} (a : WxE K d l c n b m t σ H0 te) (k : WxA K d l c n b m t σ H0 ta N) : WxA K d l c n b m t σ H0 (tCons te ta) (N + 1) := fun H Q s dk q =>
  a H _ s dk fun x H1 s1 dk1 h1 => k H1 _ (s.trans s1) dk1 fun xs H2 s2 dk2 h2 hl => q (x :: xs) H2 (s1.trans s2) dk2 (fun y hy => by
    rcases List.mem_cons.mp hy with rfl | hy
    · exact h1.same s2
    · exact h2 y hy) (by rw [List.length_cons, hl])
theorem SxA.cutD {ds : List PyData} (h : SxA n b m t ds) (lo hi : Option Int) : SxA n b m t (SG.cutD ds lo hi) := (h.drop _).take _
end
end SG

/-! More rules with the written part as a letter; three keywords, turned round. -/
namespace SG
open PySem PySem.Spec PyProof.Rows L2
section
variable {X : Cx} {K : PySem.W.Frag} {w : World}
def rInS (K : PySem.W.Frag) : R2 := fun x y H Q => ∃ p xs, y = .ref p ∧ (SqL K H p xs ∨ SqT K H p xs) ∧ flatV x = true ∧ xs.all flatV = true ∧ Q (.bl (inV x xs)) H
def rNotS (K : PySem.W.Frag) : R2 := fun x y H Q => ∃ p xs, y = .ref p ∧ (SqL K H p xs ∨ SqT K H p xs) ∧ flatV x = true ∧ xs.all flatV = true ∧ Q (.bl (!inV x xs)) H
theorem k_in (e : X.K = K := by rfl) : OpR X (compareOp .In) (rInS K) := by
  subst e
  exact op_in_seq
theorem k_notin (e : X.K = K := by rfl) : OpR X (compareOp .NotIn) (rNotS K) := by
  subst e
  exact op_notIn_seq
def rMaxK (K : PySem.W.Frag) : List V → Hp → VK → Prop := fun vs H Q => ∃ (a : Addr) (ns : List Int), vs = [V.ref a] ∧ SqL K H a (ns.map V.int) ∧ 0 < ns.length ∧ ∀ m, m ∈ ns → (∀ y, y ∈ ns → y ≤ m) → Q (.int m) H
def rMinK1 (K : PySem.W.Frag) : List V → Hp → VK → Prop := fun vs H Q => ∃ (a : Addr) (ns : List Int), vs = [V.ref a] ∧ SqL K H a (ns.map V.int) ∧ 0 < ns.length ∧ ∀ m, m ∈ ns → (∀ y, y ∈ ns → m ≤ y) → Q (.int m) H
theorem k_max (hc : X.calm = true) (e : X.K = K := by rfl) : CallR X (.builtin "max") (rMaxK K) := by
  subst e
  exact cr_max hc
theorem k_min (hc : X.calm = true) (e : X.K = K := by rfl) : CallR X (.builtin "min") (rMinK1 K) := by
  subst e
  exact cr_min hc
theorem k_sortI (e : X.K = K := by rfl) : CallR X (.builtin "sorted") (rSortedI K) := e ▸ cr_sortedI
theorem k_sortPO (e : X.K = K := by rfl) : CallR X (.builtin "sorted") (rSortedPO K) := e ▸ cr_sortedPO
theorem k_sortSet (hc : X.calm = true) (e : X.w = w := by rfl) : CallR X (.builtin "sorted") (rSortedSet w) := e ▸ cr_sortedSet hc
def rDictP (K : PySem.W.Frag) : List V → Hp → VK → Prop := fun xs H Q => ∃ (a : Addr) (ps : List Addr) (kvs : List (Key × V)), xs = [.ref a] ∧ SqL K H a (ps.map V.ref) ∧ Paired (fun p kv => SqT K H p [kV kv.1, kv.2]) ps kvs ∧ ∀ p, H p = none → Q (.ref p) (upd H p (.dK (mergeK [] kvs)))
theorem k_dictP (hc : X.calm = true) (e : X.K = K := by rfl) : CallR X (.type "dict") (rDictP K) := by
  subst e
  exact call_dictP hc
end
section
variable {X : Cx} {K : PySem.W.Frag}
theorem k_zipA {e e2 : Expr} {ta : TA} {p pos tpos : Pos} {elts : List Expr} {kk : Nat} (hg : Gl X "zip") (hm : X.mg "zip" = none) (ha : PA X [e, e2] ta)
    (hs : starEach [e, e2] X.env = (false, eval e X.env) :: starEach [e2] X.env := by rfl) (hpl : (backTo pos (starEach [e2] X.env)).any (·.1) = false := by rfl) (eK : X.K = K := by rfl) :
    PI X (.Tuple elts kk tpos) (.Call (.Name "zip" p) [e, e2] [] pos) (RZ.iZipA K ta) := eK ▸ RZ.pi_zipA hg hm ha hs hpl
end
theorem walk_zipT {K : PySem.W.Frag} {a b : Addr} {xs ys : List V} {n : Nat} (hn : n = min xs.length ys.length) : Walk (RZ.ItzT K a b) n (fun H => SqT K H a xs ∧ SqT K H b ys) (YPair (fun i => xs[i]?) (fun i => ys[i]?)) := by
  subst hn
  refine ⟨fun i _ hi q => ?_, fun _ q => ⟨xs, ys, q.1, q.2, by omega⟩, fun i H v H' _ q y => ?_⟩
  · have l1 : i < xs.length := by omega
    have l2 : i < ys.length := by omega
    exact ⟨xs, ys, xs[i], ys[i], q.1, q.2, by simp [l1], by simp [l2]⟩
  · obtain ⟨T, x, z, g1, g2, g3, g4, g5⟩ := y
    exact ⟨T, x, z, g1, g2, g3, g4 xs q.1, g5 ys q.2⟩
/-- three keywords, the last one first -/
def kwThree {α : Type} : List α → List α → List α
  | [], [c, b, a] => [a, b, c]
  | _, _ => []
theorem kwThree_rel {vs : List V} {us : List Value} {zs : List V} {ws : List Value} (a : Vals vs us) (b : Vals zs ws) : Vals (kwThree vs zs) (kwThree us ws) := by
  cases a with
  | cons _ _ => exact .nil
  | nil =>
    cases b with
    | nil => exact .nil
    | cons r t =>
      cases t with
      | nil => exact .nil
      | cons r2 t2 =>
        cases t2 with
        | nil => exact .nil
        | cons r3 t3 =>
          cases t3 with
          | nil => exact .cons r3 (.cons r2 (.cons r .nil))
          | cons _ _ => exact .nil
theorem kwThree_args {α : Type} {us ws : List α} (h : (kwThree us ws).length = 3) : ∃ x y z, us = [] ∧ ws = [x, y, z] := by
  match us, ws, h with
  | [], [x, y, z], _ => exact ⟨x, y, z, rfl, rfl⟩
  | [], [], h => exact absurd h (by simp [kwThree])
  | [], [_], h => exact absurd h (by simp [kwThree])
  | [], [_, _], h => exact absurd h (by simp [kwThree])
  | [], _ :: _ :: _ :: _ :: _, h => exact absurd h (by simp [kwThree])
  | _ :: _, _, h => exact absurd h (by simp [kwThree])
end SG

/-! Lemmas of the way to k54 that speak of no law. -/
namespace SG
open PySem PySem.Spec PyProof.Rows L2
section
variable {K : PySem.W.Frag}
theorem inV_int (k : Int) (ns : List Int) : inV (.int k) (ns.map V.int) = decide (k ∈ ns) := by
  unfold inV
  rw [List.any_map, Bool.eq_iff_iff, List.any_eq_true, decide_eq_true_eq]
  constructor
  · rintro ⟨x, hx, h⟩
    have h : (x == k) = true := h
    rw [← eq_of_beq h]
    exact hx
  · intro h
    exact ⟨k, h, (beq_self_eq_true k : (k == k) = true)⟩
theorem flat_ints (ns : List Int) : (ns.map V.int).all flatV = true := by
  rw [List.all_map, List.all_eq_true]
  exact fun _ _ => rfl
theorem get_int {ns : List Int} {i : Nat} {x : V} (h : (ns.map V.int)[i]? = some x) : ∃ k, x = .int k ∧ ns[i]? = some k := by
  rw [List.getElem?_map] at h
  obtain ⟨k, h1, h2⟩ := Option.map_eq_some_iff.mp h
  exact ⟨k, h2.symm, h1⟩
theorem int_nat {k : Int} (h : 0 ≤ k) : k = ((k.toNat : Nat) : Int) := by omega
/-- a row of answers, one for each of a row of whole numbers -/
theorem lc_bools {J : It} {G : Hp → Prop} {ns : List Int} {te : TE} {s : Nat} {σ : L2.St} {H1 : Hp} {D : Addr} {Qd : Hp → Prop} (w : Walk J (ns.map V.int).length G (YAt (ns.map V.int))) (hn : ns.length ≤ 1000) (hD : H1 D = none) (g : Int → Bool) (hG : ∀ H, Same H1 H → G H)
    (turn : ∀ (k : Int) (H2 : Hp), k ∈ ns → Same H1 H2 → ∀ R : VK, (∀ H3, Same H2 H3 → R (.bl (g k)) H3) → te ((wipe σ [s]).set s (some (.int k))) H2 R)
    (done : ∀ H2, Same H1 H2 → H2 D = some (.lst ((ns.map g).map V.bl)) → Qd H2) :
    ∃ W : Nat → Nat → Hp → Prop, (∃ m, W 0 m (upd H1 D (.lst []))) ∧ ∀ i m H, W i m H →
      (J.stop i H ∧ Qd H) ∨ (J.go i H ∧ ∃ Nx : Hp → Prop, (∀ H', Nx H' → ∃ m', m' < m ∧ W (i + 1) m' H') ∧ ∀ x H', J.yld i H x H' → gName s x (wipe σ [s]) H' fun σ2 H2 => wipe σ2 [s] = wipe σ [s] ∧ tYes σ2 H2 fun b H3 =>
        if b = true then te σ2 H3 fun y H4 => ∃ acc, H4 D = some (.lst acc) ∧ acc.length < sizeLine ∧ Nx (upd H4 D (.lst (acc ++ [y]))) else Nx H3) := by
  refine lc_same w (by rw [List.length_map]; exact hn) hD (fun i acc _ => acc = ((ns.map g).take i).map V.bl) rfl (fun _ _ _ _ _ h => h) hG ?_ ?_
  · rintro i x acc H5 H6 hi s5 rfl ⟨rfl, hx⟩ R N hR hN
    obtain ⟨k, rfl, hk⟩ := get_int hx
    refine ⟨wipe1 _ _ _, ?_⟩
    refine yesI (A := fun H7 => _) ?_
    refine turn k _ (List.mem_of_getElem? hk) s5 _ fun H3 s3 => hR _ _ s3 ?_
    rw [List.take_add_one, List.getElem?_map, hk]
    simp
  · rintro acc H5 s5 hl hD1 rfl
    rw [List.length_map, List.take_of_length_le (by rw [List.length_map]; exact Nat.le_refl _)] at hD1
    exact done H5 s5 hD1
theorem lc_nums {J : It} {G : Hp → Prop} {ns : List Int} {te : TE} {s : Nat} {σ : L2.St} {H1 : Hp} {D : Addr} {Qd : Hp → Prop} (w : Walk J (ns.map V.int).length G (YAt (ns.map V.int))) (hn : ns.length ≤ 1000) (hD : H1 D = none) (g : Int → Int) (hG : ∀ H, Same H1 H → G H)
    (turn : ∀ (k : Int) (H2 : Hp), k ∈ ns → Same H1 H2 → ∀ R : VK, (∀ H3, Same H2 H3 → R (.int (g k)) H3) → te ((wipe σ [s]).set s (some (.int k))) H2 R)
    (done : ∀ H2, Same H1 H2 → H2 D = some (.lst ((ns.map g).map V.int)) → Qd H2) :
    ∃ W : Nat → Nat → Hp → Prop, (∃ m, W 0 m (upd H1 D (.lst []))) ∧ ∀ i m H, W i m H →
      (J.stop i H ∧ Qd H) ∨ (J.go i H ∧ ∃ Nx : Hp → Prop, (∀ H', Nx H' → ∃ m', m' < m ∧ W (i + 1) m' H') ∧ ∀ x H', J.yld i H x H' → gName s x (wipe σ [s]) H' fun σ2 H2 => wipe σ2 [s] = wipe σ [s] ∧ tYes σ2 H2 fun b H3 =>
        if b = true then te σ2 H3 fun y H4 => ∃ acc, H4 D = some (.lst acc) ∧ acc.length < sizeLine ∧ Nx (upd H4 D (.lst (acc ++ [y]))) else Nx H3) := by
  refine lc_same w (by rw [List.length_map]; exact hn) hD (fun i acc _ => acc = ((ns.map g).take i).map V.int) rfl (fun _ _ _ _ _ h => h) hG ?_ ?_
  · rintro i x acc H5 H6 hi s5 rfl ⟨rfl, hx⟩ R N hR hN
    obtain ⟨k, rfl, hk⟩ := get_int hx
    refine ⟨wipe1 _ _ _, ?_⟩
    refine yesI (A := fun H7 => _) ?_
    refine turn k _ (List.mem_of_getElem? hk) s5 _ fun H3 s3 => hR _ _ s3 ?_
    rw [List.take_add_one, List.getElem?_map, hk]
    simp
  · rintro acc H5 s5 hl hD1 rfl
    rw [List.length_map, List.take_of_length_le (by rw [List.length_map]; exact Nat.le_refl _)] at hD1
    exact done H5 s5 hD1
/-- those of a row of whole numbers that pass -/
theorem lc_pass {J : It} {G : Hp → Prop} {ns : List Int} {tt : TT} {s : Nat} {σ : L2.St} {H1 : Hp} {D : Addr} {Qd : Hp → Prop} (w : Walk J (ns.map V.int).length G (YAt (ns.map V.int))) (hn : ns.length ≤ 1000) (hs : s < σ.length) (hD : H1 D = none) (g : Int → Bool) (hG : ∀ H, Same H1 H → G H)
    (turn : ∀ (k : Int) (H2 : Hp), k ∈ ns → Same H1 H2 → ∀ R : Bool → Hp → Prop, (∀ H3, Same H2 H3 → R (g k) H3) → tt ((wipe σ [s]).set s (some (.int k))) H2 R)
    (done : ∀ H2, Same H1 H2 → H2 D = some (.lst ((ns.filter g).map V.int)) → Qd H2) :
    ∃ W : Nat → Nat → Hp → Prop, (∃ m, W 0 m (upd H1 D (.lst []))) ∧ ∀ i m H, W i m H →
      (J.stop i H ∧ Qd H) ∨ (J.go i H ∧ ∃ Nx : Hp → Prop, (∀ H', Nx H' → ∃ m', m' < m ∧ W (i + 1) m' H') ∧ ∀ x H', J.yld i H x H' → gName s x (wipe σ [s]) H' fun σ2 H2 => wipe σ2 [s] = wipe σ [s] ∧ tt σ2 H2 fun b H3 =>
        if b = true then tVar s σ2 H3 fun y H4 => ∃ acc, H4 D = some (.lst acc) ∧ acc.length < sizeLine ∧ Nx (upd H4 D (.lst (acc ++ [y]))) else Nx H3) := by
  refine lc_same w (by rw [List.length_map]; exact hn) hD (fun i acc _ => acc = ((ns.take i).filter g).map V.int) rfl (fun _ _ _ _ _ h => h) hG ?_ ?_
  · rintro i x acc H5 H6 hi s5 rfl ⟨rfl, hx⟩ R N hR hN
    obtain ⟨k, rfl, hk⟩ := get_int hx
    refine ⟨wipe1 _ _ _, ?_⟩
    refine turn k _ (List.mem_of_getElem? hk) s5 _ fun H3 s3 => ?_
    have e : (ns.take (i + 1)).filter g = (ns.take i).filter g ++ (if g k = true then [k] else []) := by
      rw [List.take_add_one, hk, List.filter_append]
      congr 1
      by_cases e : g k = true <;> simp [e]
    by_cases e2 : g k = true
    · rw [e2]
      refine ifT rfl ⟨.int k, ?_, hR _ _ s3 ?_⟩
      · rw [List.getElem?_set_self (by rw [wipe_length]; exact hs)]
      · rw [e, if_pos e2, List.map_append]
        rfl
    · have e3 : g k = false := by simpa using e2
      rw [e3]
      refine ifF rfl (hN _ s3 ?_)
      rw [e, if_neg e2, List.append_nil]
  · rintro acc H5 s5 hl hD1 rfl
    rw [List.length_map, List.take_of_length_le (Nat.le_refl _)] at hD1
    exact done H5 s5 hD1
theorem atI_last {xs : List V} {x : V} : atI (xs ++ [x]) (-1) = some x := by
  unfold atI ixN
  rw [if_neg (by decide), List.length_append, List.length_singleton, if_pos (by omega)]
  have e : ((-1 : Int) + ((xs.length + 1 : Nat) : Int)).toNat = xs.length := by omega
  rw [e]
  show (xs ++ [x])[xs.length]? = some x
  rw [List.getElem?_append_right (Nat.le_refl _)]
  simp
theorem tups_upd {p : Addr} {H : Hp} {xs : List V} {o : HO} (h : H p = some (.lst xs)) : Tups H (upd H p o) := fun b u e nl => by
  have hb : b ≠ p := fun z => nl xs (Option.some.inj (e.symm.trans (by rw [z]; exact h)))
  rw [upd_ne hb]
  exact e
theorem sqT_tups {H H2 : Hp} (k : Tups H H2) {a : Addr} {zs : List V} (h : SqT K H a zs) : SqT K H2 a zs := by
  rcases h with (h | ⟨o, h⟩) | h
  · exact .inl (.inl (k _ _ h nofun))
  · exact .inl (.inr ⟨o, k _ _ h nofun⟩)
  · exact .inr h
theorem kept_upd {d l p : Addr} {H H2 : Hp} {o : HO} (k : Kept d l H H2) (n : H p = none) : Kept d l H (upd H2 p o) := fun b u e h1 h2 => by
  rw [upd_ne (ne_of_none e n)]
  exact k b u e h1 h2
theorem Dek.updN {d l p : Addr} {c : Nat} {H : Hp} {o : HO} (D : Dek H d l c) (h1 : p ≠ d) (h2 : p ≠ l) : Dek (L2.upd H p o) d l c := by
  obtain ⟨cs, m, n, e1, e2, e3⟩ := D
  exact ⟨cs, m, n, by rw [upd_ne (Ne.symm h1)]; exact e1, by rw [upd_ne (Ne.symm h2)]; exact e2, e3⟩
def rgI (n : Nat) : List Int := (List.range n).map fun (k : Nat) => (k : Int)
theorem rg_len (n : Nat) : (rgI n).length = n := by unfold rgI; simp
theorem rgV_eq (n : Nat) : rgV 0 (n : Int) = (rgI n).map V.int := by
  unfold rgV rgI
  rw [List.map_map]
  have e : ((n : Int) - 0).toNat = n := by omega
  rw [e]
  apply List.map_congr_left
  intro k _
  show V.int (0 + (k : Int)) = V.int (k : Int)
  rw [Int.zero_add]
theorem walk_enumT {a : Addr} {xs : List V} : Walk (IteT K a) xs.length (fun H => SqT K H a xs) (YPair (fun i => some (.int (i : Nat))) (fun i => xs[i]?)) := by
  refine ⟨fun i _ hi q => ⟨xs, xs[i], q, by simp [hi]⟩, fun _ q => ⟨xs, q, Nat.le_refl _⟩, fun i H v H' _ q y => ?_⟩
  obtain ⟨T, x, h1, h2, h3, h4⟩ := y
  exact ⟨T, .int (i : Nat), x, h1, h2, h3, rfl, h4 xs q⟩
/-- those of some data that a test doesn't take: none, if it takes all -/
theorem lc_none {J : It} {G : Hp → Prop} {xs : List V} {ds : List PyData} {tt : TT} {s : Nat} {σ : L2.St} {H1 : Hp} {D : Addr} {Qd : Hp → Prop} (w : Walk J xs.length G (YAt xs)) (ha : DxAll K H1 xs ds) (hn : xs.length ≤ 1000) (hs : s < σ.length) (hD : H1 D = none) (g : PyData → Bool) (hG : ∀ H, Same H1 H → G H)
    (turn : ∀ (x : V) (E : PyData) (H2 : Hp), E ∈ ds → Same H1 H2 → Dx K H2 x E → ∀ R : Bool → Hp → Prop, (∀ H3, Same H2 H3 → R (!g E) H3) → tt ((wipe σ [s]).set s (some x)) H2 R)
    (done : ∀ (acc : List V) (H2 : Hp), Same H1 H2 → H2 D = some (.lst acc) → acc.isEmpty = ds.all g → Qd H2) :
    ∃ W : Nat → Nat → Hp → Prop, (∃ m, W 0 m (upd H1 D (.lst []))) ∧ ∀ i m H, W i m H →
      (J.stop i H ∧ Qd H) ∨ (J.go i H ∧ ∃ Nx : Hp → Prop, (∀ H', Nx H' → ∃ m', m' < m ∧ W (i + 1) m' H') ∧ ∀ x H', J.yld i H x H' → gName s x (wipe σ [s]) H' fun σ2 H2 => wipe σ2 [s] = wipe σ [s] ∧ tt σ2 H2 fun b H3 =>
        if b = true then tVar s σ2 H3 fun y H4 => ∃ acc, H4 D = some (.lst acc) ∧ acc.length < sizeLine ∧ Nx (upd H4 D (.lst (acc ++ [y]))) else Nx H3) := by
  have lx := dxA_len ha
  refine lc_same w hn hD (fun i acc _ => acc.isEmpty = (ds.take i).all g) rfl (fun _ _ _ _ _ h => h) hG ?_ ?_
  · rintro i x acc H5 H6 hi s5 ea ⟨rfl, hx⟩ R N hR hN
    obtain ⟨E, h1, h2⟩ := dxA_get (dxA_same s5 ha) hx
    refine ⟨wipe1 _ _ _, ?_⟩
    refine turn x E _ (List.mem_of_getElem? h1) s5 h2 _ fun H3 s3 => ?_
    have e : (ds.take (i + 1)).all g = ((ds.take i).all g && g E) := by
      rw [List.take_add_one, h1, List.all_append]
      simp
    by_cases e2 : g E = true
    · rw [e2]
      refine ifF (by rfl) (hN _ s3 ?_)
      rw [e, e2, Bool.and_true]
      exact ea
    · have e3 : g E = false := by simpa using e2
      rw [e3]
      refine ifT rfl ⟨x, ?_, hR _ _ s3 ?_⟩
      · rw [List.getElem?_set_self (by rw [wipe_length]; exact hs)]
      · rw [e, e3, Bool.and_false]
        cases acc <;> rfl
  · rintro acc H5 s5 hl hD1 ea
    rw [lx, List.take_of_length_le (Nat.le_refl _)] at ea
    exact done acc H5 s5 hD1 ea
theorem eqv_ints : ∀ a b : List Int, PyData.eqv (.list (dI a)) (.list (dI b)) = decide (a = b)
  | [], [] => by simp [dI, PyData.eqv, PyData.eqvAll]
  | [], b :: r => by simp [dI, PyData.eqv, PyData.eqvAll]
  | a :: r, [] => by simp [dI, PyData.eqv, PyData.eqvAll]
  | a :: r, b :: t => by
    have ih := eqv_ints r t
    simp only [PyData.eqv] at ih
    show PyData.eqvAll (PyData.int a :: dI r) (PyData.int b :: dI t) = _
    simp only [PyData.eqvAll, PyData.eqv, ih]
    rw [Bool.eq_iff_iff]
    simp
/-- all but one object stays -/
def But (d : Addr) (H H2 : Hp) : Prop := ∀ b o, H b = some o → b ≠ d → H2 b = some o
theorem But.upd {d : Addr} {H H2 : Hp} {o : HO} (k : But d H H2) : But d H (upd H2 d o) := fun b x h hb => by
  rw [upd_ne hb]
  exact k _ _ h hb
theorem sqT_but {d : Addr} {H H2 : Hp} {kvs : List (Key × V)} (k : But d H H2) (hd : H d = some (.dK kvs)) {a : Addr} {zs : List V} (h : SqT K H a zs) : SqT K H2 a zs := by
  rcases h with (h | ⟨o, h⟩) | h
  · exact .inl (.inl (k _ _ h (ne_of h hd nofun)))
  · exact .inl (.inr ⟨o, k _ _ h (ne_of h hd nofun)⟩)
  · exact .inr h
theorem dx_kind_int {H : Hp} {x : V} {E : PyData} (h : Dx K H x E) (h1 : isIntLike E = true) (h2 : isBool E = false) : ∃ i, E = .int i ∧ x = .int i := by
  cases h with
  | int i => exact ⟨i, rfl, rfl⟩
  | bl b => cases h2
  | _ => cases h1
/-- a comprehension over range(n) whose turns draw so much each -/
theorem lc_drawsN {d l D : Addr} {c n m s : Nat} {te : TE} {σ : L2.St} {H1 : Hp} {Qd : Hp → Prop} {B : Hp → V → Prop} (BT : ∀ H H' x, Tups H H' → B H x → B H' x) (BK : ∀ H H' c x, Dek H d l c → Kept d l H H' → B H x → B H' x) (D0 : Dek H1 d l c) (hD : H1 D = none) (hn : n ≤ 1000)
    (turn : ∀ (i : Nat) (H2 : Hp), i < n → Dek H2 d l (c + m * i) → Kept d l H1 H2 → ∀ R : VK, (∀ (x : V) (H3 : Hp), B H3 x → Dek H3 d l (c + m * i + m) → Kept d l H2 H3 → R x H3) → te ((wipe σ [s]).set s (some (.int (0 + i)))) H2 R)
    (done : ∀ (xs : List V) (H2 : Hp), xs.length = n → (∀ x ∈ xs, B H2 x) → H2 D = some (.lst xs) → Dek H2 d l (c + m * n) → Kept d l H1 H2 → Qd H2) :
    ∃ W : Nat → Nat → Hp → Prop, (∃ m, W 0 m (upd H1 D (.lst []))) ∧ ∀ i m H, W i m H →
      ((Itr 0 n).stop i H ∧ Qd H) ∨ ((Itr 0 n).go i H ∧ ∃ Nx : Hp → Prop, (∀ H2, Nx H2 → ∃ m2, m2 < m ∧ W (i + 1) m2 H2) ∧ ∀ x H2, (Itr 0 n).yld i H x H2 → gName s x (wipe σ [s]) H2 fun σ2 H3 => wipe σ2 [s] = wipe σ [s] ∧ tYes σ2 H3 fun b H4 =>
        if b = true then te σ2 H4 fun y H5 => ∃ acc, H5 D = some (.lst acc) ∧ acc.length < sizeLine ∧ Nx (upd H5 D (.lst (acc ++ [y]))) else Nx H4) := by
  obtain ⟨nd, nl⟩ := D0.ne hD
  refine lc_range (fun i H2 => ∃ xs : List V, xs.length = i ∧ (∀ x ∈ xs, B H2 x) ∧ H2 D = some (.lst xs) ∧ Dek H2 d l (c + m * i) ∧ Kept d l H1 H2) ?_ ?_ ?_
  · exact ⟨[], rfl, (fun _ h => absurd h List.not_mem_nil), upd_same, D0.upd hD, .of (same_new hD)⟩
  · rintro i H2 hi ⟨xs, hx, hB, hD2, D2, k2⟩
    refine ⟨wipe1 _ _ _, ?_⟩
    refine yesI ?_
    refine turn i H2 hi D2 k2 _ fun x H3 hb D3 k3 => ⟨xs, k3 _ _ hD2 nd nl, ?_, xs ++ [x], by simp [hx], fun y hy => ?_, upd_same, ?_, ?_⟩
    · rw [hx]
      exact small1000 (by omega)
    · have tu := tups_upd (o := .lst (xs ++ [x])) (k3 _ _ hD2 nd nl)
      rcases List.mem_append.mp hy with h | h
      · exact BT _ _ _ tu (BK _ _ _ _ D2 k3 (hB y h))
      · rw [List.mem_singleton.mp h]; exact BT _ _ _ tu hb
    · have e : c + m * (i + 1) = c + m * i + m := by rw [Nat.mul_add, Nat.mul_one, Nat.add_assoc]
      rw [e]
      exact D3.updN nd nl
    · exact kept_upd (k2.trans k3) hD
  · rintro H2 ⟨xs, hx, hB, hD2, D2, k2⟩
    exact done xs H2 hx hB hD2 D2 k2
/-- those of a list that a test takes: none -/
theorem lc_empty {J : It} {G : Hp → Prop} {xs : List V} {tt : TT} {te : TE} {s : Nat} {σ : L2.St} {H1 : Hp} {D : Addr} {Qd : Hp → Prop} (w : Walk J xs.length G (YAt xs)) (hn : xs.length ≤ 1000) (hD : H1 D = none) (hG : ∀ H, Same H1 H → G H)
    (turn : ∀ (x : V) (H2 : Hp), x ∈ xs → Same H1 H2 → ∀ R : Bool → Hp → Prop, (∀ H3, Same H2 H3 → R false H3) → tt ((wipe σ [s]).set s (some x)) H2 R)
    (done : ∀ (H2 : Hp), Same H1 H2 → H2 D = some (.lst []) → Qd H2) :
    ∃ W : Nat → Nat → Hp → Prop, (∃ m, W 0 m (upd H1 D (.lst []))) ∧ ∀ i m H, W i m H →
      (J.stop i H ∧ Qd H) ∨ (J.go i H ∧ ∃ Nx : Hp → Prop, (∀ H', Nx H' → ∃ m', m' < m ∧ W (i + 1) m' H') ∧ ∀ x H', J.yld i H x H' → gName s x (wipe σ [s]) H' fun σ2 H2 => wipe σ2 [s] = wipe σ [s] ∧ tt σ2 H2 fun b H3 =>
        if b = true then te σ2 H3 fun y H4 => ∃ acc, H4 D = some (.lst acc) ∧ acc.length < sizeLine ∧ Nx (upd H4 D (.lst (acc ++ [y]))) else Nx H3) := by
  refine lc_same w hn hD (fun i acc _ => acc = []) rfl (fun _ _ _ _ _ h => h) hG ?_ ?_
  · rintro i x acc H5 H6 hi s5 rfl ⟨rfl, hx⟩ R N hR hN
    refine ⟨wipe1 _ _ _, ?_⟩
    refine turn x _ (List.mem_of_getElem? hx) s5 _ fun H3 s3 => ifF (by rfl) (hN _ s3 rfl)
  · rintro acc H5 s5 hl hD1 rfl
    exact done H5 s5 hD1
theorem cat_wx {d l : Addr} {c n b m t : Nat} {σ : L2.St} {H : Hp} {ta : TA} {N i j : Nat} {p : Addr} {xs : List V} {De : Ends} (e : σ[i]? = some (some (.ref p))) (hp : H p = some (.lst xs)) (it0 : ∀ x ∈ xs, Itm K d l n b m t H x) (lit : WxA K d l c n b m t σ H ta N) (dk : Dek H d l c) (hN : xs.length + N ≤ 1000)
    (q : ∀ (p2 : Addr) (ys : List V) (H2 : Hp), Same H H2 → Dek H2 d l c → p2 ≠ d → p2 ≠ l → H p2 = none → H2 p2 = some (.lst ys) → (∀ y ∈ ys, Itm K d l n b m t H2 y) → ys.length = xs.length + N → De.nx (σ.set j (some (.ref p2))) H2) :
    tAsg (tOp rCat (tVar i) (tLst ta)) (gName j) De σ H := by
  refine ⟨_, e, lit H _ (Same.refl H) dk fun zs H1 s1 dk1 it hl => ⟨Nat.le_of_lt (small1000 (by omega)), fun p1 np1 => ?_⟩⟩
  have s2 : Same H (upd H1 p1 (.lst zs)) := s1.trans (same_new np1)
  have dk2 := dk1.upd (o := .lst zs) np1
  have h1 : upd H1 p1 (.lst zs) p1 = some (.lst zs) := upd_same
  refine ⟨p, p1, xs, zs, rfl, rfl, s2 _ _ hp, h1, Nat.le_of_lt (small1000 (by omega)), fun p2 np2 => ?_⟩
  refine q p2 _ _ (s2.trans (same_new np2)) (dk2.upd np2) (dk2.ne np2).1 (dk2.ne np2).2 (s2.free np2) upd_same (fun y hy => ?_) (by rw [List.length_append, hl])
  rcases List.mem_append.mp hy with h | h
  · exact (it0 y h).same (s2.trans (same_new np2))
  · exact (it y h).same ((same_new np1).trans (same_new np2))
theorem dxA_ints {H : Hp} : ∀ {xs : List V} {ns : List Int}, DxAll K H xs (ns.map PyData.int) → xs = ns.map V.int
  | _, [], .nil => rfl
  | _, n :: ns, .cons a b => by
    cases a
    rw [dxA_ints b]
    rfl
theorem k_bm {X : Cx} {T id : String} {name : Str} {apos cpos : Pos} {o e : Expr} {es : List Expr} {to : TE} {t : TA} {r : V → List V → Hp → VK → Prop} (pa : PlainAttrs T) (slot : Slot T name id) (hty : typeOf (.builtin id) = pure (.type "method_descriptor")) (hm : MtR X id r) (ho : PE X o to) (ha : PA X (e :: es) t)
    (hbase : attributeBase o name X.env (eval o X.env) = eval o X.env := by rfl)
    (hfew : ((backTo cpos (starEach (e :: es) X.env)).all (fun x => !x.1) && (backToKw cpos (keywordEach [] X.env)).all (fun x => x.1.isSome)
      && decide ((e :: es).length + ([] : List Keyword).length + (if ([] : List Keyword).isEmpty then 0 else 1) < 30)) = true := by rfl)
    (hline : (apos.endLine == cpos.line) = true := by rfl) (hs : starEach (e :: es) X.env = (false, eval e X.env) :: starEach es X.env := by rfl) (hplain : (backTo cpos (starEach es X.env)).any (·.1) = false := by rfl) (eK : X.K = K := by rfl) :
    PE X (.Call (.Attribute o name apos) (e :: es) [] cpos) (tBM K T r to t) := by
  subst eK
  exact pe_bm pa slot hty hm ho ha hbase hfew hline hs hplain
theorem k_index {X : Cx} (e : X.K = K := by rfl) : MtR X "list.index" (rIndex K) := by
  subst e
  exact mt_index
theorem k_tupI {X : Cx} {tg e : Expr} {te : TE} (he : PE X e te) (eK : X.K = K := by rfl) : PI X tg e (iTup K te) := by
  subst eK
  exact pi_tup he
theorem k_listI {X : Cx} {tg e : Expr} {te : TE} (he : PE X e te) (eK : X.K = K := by rfl) : PI X tg e (iList K te) := by
  subst eK
  exact pi_list he
end
end SG

/-! Any data compared with an empty tuple. -/
namespace PySem.SeqAt
open PySem PySem.Spec
theorem tuple_eq_declines_dict (l b : Addr) (items : Array Value) (es : Array DictEntry) (n n2 : Nat) (dd dd2 : Option Addr) (sl sl2 : Array (Option Value)) :
    Meets (Builtin.«tuple.__eq__» ⟨[.ref l, .ref b], []⟩) (fun _ R s => s.heap.get? l = some { cls := .type "tuple", dict := dd, data := .seq items n, slots := sl } ∧ s.heap.get? b = some { cls := .type "dict", dict := dd2, data := .dict es n2, slots := sl2 } ∧ R (.ok (.ret .notImplemented)) s) :=
  .of_wp fun prog w A R s h => by obtain ⟨hp, g, d, tk, os⟩ := s; obtain ⟨hl, hb, h⟩ := h; have f1 := F.sub_dict_tuple; wp_walk using wpAny_loadPart' hl, wpAny_loadPart' hb; exact ⟨_, rfl, h⟩
theorem dict_eq_declines_tuple (l b : Addr) (items : Array Value) (es : Array DictEntry) (n n2 : Nat) (dd dd2 : Option Addr) (sl sl2 : Array (Option Value)) :
    Meets (Builtin.«dict.__eq__» ⟨[.ref b, .ref l], []⟩) (fun _ R s => s.heap.get? l = some { cls := .type "tuple", dict := dd, data := .seq items n, slots := sl } ∧ s.heap.get? b = some { cls := .type "dict", dict := dd2, data := .dict es n2, slots := sl2 } ∧ R (.ok (.ret .notImplemented)) s) :=
  .of_wp fun prog w A R s h => by
    obtain ⟨hl, hb, h⟩ := h
    show wpAny _ _ (Builtin.Dict.dictSlotArgs "__eq__" ⟨[.ref b, .ref l], []⟩ >>= _) _ _ s
    refine wpAny_bind ?_
    unfold Builtin.Dict.dictSlotArgs
    refine wpAny_bind (wpAny_notOrdered_dict ⟨_, hb, rfl⟩ ?_)
    show wpAny _ _ (pure (Value.ref b, Value.ref l)) _ _ s
    refine wpAny_pure ?_
    refine wpAny_bind (wpAny_isInstance (T := "tuple") ⟨_, hl, rfl⟩ F.sub_tuple_dict ?_)
    simp only [Bool.not_false, if_true]
    refine wpAny_bind (wpAny_rule ?_)
    exact wpAny_pure ⟨_, rfl, h⟩
section
variable {A : Around} {s : Shared}
theorem RcAt.dict_tuple {b l : Addr} {items : Array Value} {o : Obj} {n2 : Nat} {es : Array DictEntry} (ho : s.heap.get? b = some o) (hc : o.cls = .type "dict") (hd : o.data = .dict es n2) (hb : s.heap.IsTuple l items) (hu : A.units < cLine) : RcAt A s (.ref b) (.ref l) false := fun prog w E Q h => by
  obtain ⟨cls, dd, data, sl⟩ := o
  obtain ⟨⟨cls2, dd2, data2, sl2⟩, ho2, hc2, n, hd2⟩ := id hb
  simp only at hc hd hc2 hd2
  subst hc hd hc2 hd2
  have hne : b ≠ l := fun e => by
    subst e
    rw [ho] at ho2
    have z := congrArg Obj.cls (Option.some.inj ho2)
    simp at z
  exact (rc_eq_decline_or (k := false) ⟨_, ho, rfl⟩ ⟨_, ho2, rfl⟩ (by decide) F.sub_tuple_dict F.slot_dict_eq F.slot_tuple_eq_refl
    (fun _ hq => call_meets F.slot_dict_eq ⟨_, ho, rfl⟩ F.entry_dict_eq (F.args_dict_eq_2 _ _) (dict_eq_declines_tuple l b items es n n2 dd2 dd sl2 sl) ⟨ho2, ho, hq⟩)
    (fun _ hq => call_meets F.slot_tuple_eq_refl ⟨_, ho2, rfl⟩ F.entry_tuple_eq (F.args_tuple_eq_2 _ _) (tuple_eq_declines_dict l b items es n n2 dd2 dd sl2 sl) ⟨ho2, ho, hq⟩)
    (fun _ hq => wpAny_isSame_ref_other hne ho ho2 (by simp) hq) (.inr hu) h)
end
end PySem.SeqAt
namespace SG
open PySem PySem.Spec PyProof.Rows L2
def isUnit : PyData → Bool
  | .tuple [] => true
  | _ => false
/-- any data, and an empty tuple -/
def rEqU (K : PySem.W.Frag) : R2 := fun x y H Q => ∃ D b, y = .ref b ∧ Dx K H x D ∧ SqT K H b [] ∧ Q (.bl (isUnit D)) H
section
variable {X : Cx}
theorem op_eqU (hu : X.A.units < cLine) : OpR X (compareOp .Eq) (rEqU X.K) := by
  intro pins s σ H x y v u Q I rx ry h
  obtain ⟨D, b, rfl, hd, hb, q⟩ := h
  cases ry
  obtain ⟨is2, r2, p2, _⟩ := I.tuple hb
  obtain rfl := vals_nil r2
  cases hd with
  | non =>
    obtain rfl : v = Value.none := rx
    exact SeqAt.RcAt.none_tuple p2 hu X.prog X.w X.xe _ ⟨.bl false, H, I, rfl, q⟩
  | bl k =>
    obtain rfl : v = Value.bool k := rx
    exact SeqAt.RcAt.bool_tuple k p2 hu X.prog X.w X.xe _ ⟨.bl false, H, I, rfl, q⟩
  | int i =>
    obtain ⟨t, rfl⟩ := rx
    exact SeqAt.RcAt.int_tuple i t p2 hu X.prog X.w X.xe _ ⟨.bl false, H, I, rfl, q⟩
  | str z =>
    obtain ⟨t, rfl⟩ := rx
    exact SeqAt.RcAt.str_tuple z t p2 hu X.prog X.w X.xe _ ⟨.bl false, H, I, rfl, q⟩
  | lst hs ha =>
    rename_i p xs ds
    obtain rfl : v = Value.ref p := rx
    obtain ⟨its, rv, p1, _⟩ := I.list hs
    exact SeqAt.RcAt.list_tuple p1.isList p2 hu X.prog X.w X.xe _ ⟨.bl false, H, I, rfl, q⟩
  | tup hs ha =>
    rename_i p xs ds
    obtain rfl : v = Value.ref p := rx
    obtain ⟨is1, r1, p1, _⟩ := I.tuple hs
    have e := size_of_vals r1
    have el := dxA_len ha
    refine SeqAt.eq_tupleAt p1 p2 hu (e := fun _ => true) (fun j _ h2 => absurd h2 (by simp)) ⟨.bl (isUnit (.tuple ds)), H, I, ?_, q⟩
    show Value.bool _ = Value.bool _
    congr 1
    rw [e, el]
    cases ds <;> simp [isUnit]
  | dct hp =>
    rename_i p
    obtain rfl : v = Value.ref p := rx
    obtain ⟨_, o, n, h1, h2, h3⟩ := dct_at I hp
    exact SeqAt.RcAt.dict_tuple h1 h2 h3 p2 hu X.prog X.w X.xe _ ⟨.bl false, H, I, rfl, q⟩
theorem k_eqU {K : PySem.W.Frag} (hu : X.A.units + 64 < cLine) (e : X.K = K := by rfl) : OpR X (compareOp .Eq) (rEqU K) := e ▸ op_eqU (by omega)
end
end SG

/-! y = {k: v for ..} -/
namespace SG
open PySem PySem.Spec PyProof.Rows L2
section
variable {X : Cx}
theorem ps_setDc {i : Nat} {y : Str} {py : Pos} {kx vx tg iter : Expr} {ifs : List Expr} {scope : Scope} {own : List (Str × Nat)} {pos spos : Pos} {wi : TI} {g : TG} {tt : TT} {tk tv : TE} (hc : X.calm = true) (hN : X.N.Nodup) (hy : X.N[i]? = some y) (hyl : X.env.scope.names.lookup y = some .local)
    (hsw : swapsWith (.DictComp kx vx [⟨tg, iter, ifs, 0⟩] scope pos) (some (.Name y py)) spos.line X.env = pure true) (hi : PI X tg iter wi) (ok : BlkOk X.N X.env.scope scope own)
    (hg : ∀ (s : Shared) (H : Hp) (C : Addr) (cl : List (Str × Addr)) (fp : List Addr), PG (X.blk s H scope (compEnvC scope cl C X.env) fp) tg g) (ht : ∀ (s : Shared) (H : Hp) (C : Addr) (cl : List (Str × Addr)) (fp : List Addr), PTs (X.blk s H scope (compEnvC scope cl C X.env) fp) ifs tt)
    (hk : ∀ (s : Shared) (H : Hp) (C : Addr) (cl : List (Str × Addr)) (fp : List Addr), PE (X.blk s H scope (compEnvC scope cl C X.env) fp) kx tk)
    (he : ∀ (s : Shared) (H : Hp) (C : Addr) (cl : List (Str × Addr)) (fp : List Addr), PE (X.blk s H scope (compEnvC scope cl C X.env) fp) vx tv) (hs : ∀ x, foldedSetIterable iter X.env x = pure x := by intro _; rfl) :
    PS X (.Assign [.Name y py] (.DictComp kx vx [⟨tg, iter, ifs, 0⟩] scope pos) spos) (tAsg (tDc wi g tt tk tv (own.map (·.2))) (gName i)) := by
  refine ⟨fun pins s σ H D I h => ?_⟩
  rw [exec_Assign_Name_used _ _ _ _ hsw]
  refine wpAny_bind (wpAny_standAt (wpAny_bind ?_))
  show wpAny _ X.A (do let _ ← comprehension (.DictComp kx vx [⟨tg, iter, ifs, 0⟩] scope pos) scope X.env (firstIterPos [⟨tg, iter, ifs, 0⟩] pos) newDict false (eval iter X.env) (some (assign (.Name y py) X.env))) _ _ s
  have h : tDc wi g tt tk tv (own.map (·.2)) σ H (fun x H1 => gName i x σ H1 D.nx) := h
  refine wpAny_bind (thn (dc_core (Qf := fun _ s' => SP X pins D .next s') hc hN I hi ok hg ht hk he hs h fun L C s' m H' I' q hn f => ?_) fun _ s' hq => wpAny_pure (wpAny_pure hq))
  show wpAny _ _ (assign (.Name y py) X.env (.ref L)) _ _ _
  refine wpAny_assign_Name (store_ok2 (v := V.ref L) I' hN hy (.inl hyl) rfl (fun s2 I2 ⟨a, sb, ha⟩ => ?_) (.inr hyl))
  obtain ⟨f0, f1, f2, f3, f4, f5⟩ := f
  have haC : C ≠ a := by
    rcases ha with z | z
    · rw [z]; exact f1
    · exact fun e => f4 y a z e.symm
  refine ⟨m, hn.sameBut sb haC, fun h3 sb3 => ?_⟩
  exact ⟨_, H', I2.turned (t' := s2.toks) (fun b o hb e => (sb3.2 b hb).trans e) f0 f1 f3 f4 f5, q⟩
theorem sw_trueD {kx vx : Expr} {gs : List Comprehension} {scope : Scope} {pos py : Pos} {y : Str} {l : Nat} {env : Env} (hk : env.scope.kind = .function) (hy : env.scope.names.lookup y = some .local) (hl : (py.line == pos.line) = true)
    (ha : (scope.names.any fun (n, k) => n == y && (k == .local || k == .cell)) = false) : swapsWith (.DictComp kx vx gs scope pos) (some (.Name y py)) l env = pure true := by
  have ky : env.kindOf y = some .local := hy
  have hb : env.blockKind = .function := by unfold Env.blockKind; rw [hk]; rfl
  unfold swapsWith
  simp only [hb, ky, ha, Expr.pos, hl]
  rfl
end
end SG

namespace SG
open PySem PySem.Spec PyProof.Rows L2
def iEnumS0 (ta : TA) : TI := fun σ Hx R => ta σ Hx fun vs H1 => ∃ (x : Str), vs = [.str x] ∧ R (IteS x 0) H1
theorem pi_enumS0 {X : Cx} {e : Expr} {ta : TA} {p pos tpos : Pos} {elts : List Expr} {kk : Nat} (hg : Gl X "enumerate") (hm : X.mg "enumerate" = none) (ha : PA X [e] ta) (hs : starEach [e] X.env = [(false, eval e X.env)] := by rfl) :
    PI X (.Tuple elts kk tpos) (.Call (.Name "enumerate" p) [e] [] pos) (iEnumS0 ta) := by
  refine ⟨fun pins st σ Hx R I h => ?_⟩
  refine Call_ (ld_blt I hg hm boot_enumerate (PyProof.Rows.callWith_type1 (thn (ha.run pos pins st σ Hx _ I h) ?_) hs rfl))
  rintro us s1 ⟨vs, H1, I1, r1, x, rfl, q⟩
  obtain ⟨t, rfl⟩ : ∃ t, us = [.str x t] := by
    cases r1 with
    | cons x y => cases y; obtain ⟨t, rfl⟩ := x; exact ⟨_, rfl⟩
  refine enum1_begins (begins_text x t) trivial fun h2 he hit hsz hkp => wpAny_pyIter_enum he ?_
  have I2 : L2.Inv X pins σ H1 { s1 with heap := h2 } := I1.kept (t' := s1.toks) hkp
  refine ⟨s1.heap.objs.size + 1, [s1.heap.objs.size + 1, s1.heap.objs.size], _, _, H1, rfl, I2, turn_enumS x t 0 (s1.heap.objs.size + 1) s1.heap.objs.size,
    ⟨⟨.none, he⟩, ⟨_, hit, rfl, rfl⟩, Nat.succ_ne_self _⟩, fun b hb => ?_, q⟩
  have hle : s1.heap.objs.size ≤ b := by
    rcases (show b = s1.heap.objs.size + 1 ∨ b = s1.heap.objs.size by simpa using hb) with z | z
    · rw [z]; exact Nat.le_succ _
    · rw [z]; exact Nat.le_refl _
  exact I1.fpOk hle (I1.hok.fresh hle)
end SG

namespace SG
open PySem PySem.Spec PyProof.Rows L2
theorem get_list {X : Cx} {K : PySem.W.Frag} (eK : X.K = K := by rfl) : PGet X (rIxL K) := by
  subst eK
  intro pins s σ H x y v u Q I rx ry h
  obtain ⟨p, xs, i, z, rfl, rfl, hq, he, q⟩ := h
  cases rx
  obtain ⟨t, rfl⟩ := ry
  obtain ⟨its, r, pl, hz⟩ := I.list hq
  obtain ⟨j, h1, h2, h3, h4, h5⟩ := atI_get he
  obtain ⟨w, ew, rw'⟩ := r.get h2
  have hl := r.length
  have hn := line63
  have fin : EP X pins σ Q w s := ⟨z, H, I, rw', q⟩
  by_cases h0 : 0 ≤ i
  · have hj : i.toNat = j := by
      rw [seqIndex_of h0 h5] at h1
      exact Option.some.inj h1
    exact wpAny_getItem_list (Q := EP X pins σ Q) pl.isList h0 (by omega) (by rw [hj]; simpa using ew) fin
  · have hj : (i + (its.toArray.size : Int)).toNat = j := by
      rw [seqIndex_neg (by omega) h4] at h1
      rw [List.size_toArray, ← hl]
      exact Option.some.inj h1
    exact wpAny_getItem_list_neg (Q := EP X pins σ Q) pl.isList (by omega) (by rw [List.size_toArray] <;> omega) (by omega) (by rw [hj]; simpa using ew) fin
end SG

/-! Longer comprehensions; `in` of a tuple or a dict; `in` of an own class. -/
namespace SG
open PySem PySem.Spec PyProof.Rows L2
theorem small5 {n : Nat} (h : n ≤ 100000) : n < sizeLine := Nat.lt_of_le_of_lt h (by decide)
theorem lc_valW {J : It} {n : Nat} {G : Hp → Prop} {Y : Nat → Hp → V → Hp → Prop} (w : Walk J n G Y) {g : TG} {te : TE} {vs : List Nat} {σ : L2.St} {H1 : Hp} {D : Addr} {Qd : Hp → Prop} (hn : n ≤ 100000) (hD : H1 D = none) (f : Nat → V) (hG : ∀ H, Same H1 H → G H)
    (turn : ∀ (i : Nat) (x : V) (H2 H3 : Hp), i < n → Same H1 H2 → Y i H2 x H3 → ∀ R : VK, (∀ H6, Same H2 H6 → R (f i) H6) → g x (wipe σ vs) H3 fun σ2 H4 => wipe σ2 vs = wipe σ vs ∧ te σ2 H4 R)
    (done : ∀ (H2 : Hp), Same H1 H2 → H2 D = some (.lst ((List.range n).map f)) → Qd H2) :
    ∃ W : Nat → Nat → Hp → Prop, (∃ m, W 0 m (upd H1 D (.lst []))) ∧ ∀ i m H, W i m H →
      (J.stop i H ∧ Qd H) ∨ (J.go i H ∧ ∃ Nx : Hp → Prop, (∀ H', Nx H' → ∃ m', m' < m ∧ W (i + 1) m' H') ∧ ∀ x H', J.yld i H x H' → g x (wipe σ vs) H' fun σ2 H2 => wipe σ2 vs = wipe σ vs ∧ tYes σ2 H2 fun b H3 =>
        if b = true then te σ2 H3 fun y H4 => ∃ acc, H4 D = some (.lst acc) ∧ acc.length < sizeLine ∧ Nx (upd H4 D (.lst (acc ++ [y]))) else Nx H3) := by
  refine lc_it w (fun i H => Same H1 H ∧ H D = some (.lst ((List.range i).map f))) ⟨same_new hD, upd_same⟩ (fun i H _ q => hG H q.1) ?_ ?_
  · rintro i x H H2 hi ⟨s, hA⟩ hy
    have z := turn i x H H2 hi s hy (fun y H4 => ∃ acc, H4 D = some (.lst acc) ∧ acc.length < sizeLine ∧ (Same H1 (upd H4 D (.lst (acc ++ [y]))) ∧ upd H4 D (.lst (acc ++ [y])) D = some (.lst ((List.range (i + 1)).map f)))) (fun H6 s6 => ⟨_, s6 _ _ hA, small5 (by simp; omega), same_upd_of (s.trans s6) hD, by rw [upd_same, List.range_succ, List.map_append]; rfl⟩)
    exact z
  · rintro H ⟨s, hA⟩
    exact done H s hA
theorem lc_filW {J : It} {n : Nat} {G : Hp → Prop} {Y : Nat → Hp → V → Hp → Prop} (w : Walk J n G Y) {g : TG} {tt : TT} {te : TE} {vs : List Nat} {σ : L2.St} {H1 : Hp} {D : Addr} {Qd : Hp → Prop} (hn : n ≤ 100000) (hD : H1 D = none) (p : Nat → Bool) (f : Nat → V) (hG : ∀ H, Same H1 H → G H)
    (turn : ∀ (i : Nat) (x : V) (H2 H3 : Hp), i < n → Same H1 H2 → Y i H2 x H3 → ∀ (R : VK) (N : Hp → Prop), (p i = true → ∀ H6, Same H2 H6 → R (f i) H6) → (p i = false → ∀ H6, Same H2 H6 → N H6) →
      g x (wipe σ vs) H3 fun σ2 H4 => wipe σ2 vs = wipe σ vs ∧ tt σ2 H4 fun b H5 => if b = true then te σ2 H5 R else N H5)
    (done : ∀ (H2 : Hp), Same H1 H2 → H2 D = some (.lst (((List.range n).filter p).map f)) → Qd H2) :
    ∃ W : Nat → Nat → Hp → Prop, (∃ m, W 0 m (upd H1 D (.lst []))) ∧ ∀ i m H, W i m H →
      (J.stop i H ∧ Qd H) ∨ (J.go i H ∧ ∃ Nx : Hp → Prop, (∀ H', Nx H' → ∃ m', m' < m ∧ W (i + 1) m' H') ∧ ∀ x H', J.yld i H x H' → g x (wipe σ vs) H' fun σ2 H2 => wipe σ2 vs = wipe σ vs ∧ tt σ2 H2 fun b H3 =>
        if b = true then te σ2 H3 fun y H4 => ∃ acc, H4 D = some (.lst acc) ∧ acc.length < sizeLine ∧ Nx (upd H4 D (.lst (acc ++ [y]))) else Nx H3) := by
  refine lc_it w (fun i H => Same H1 H ∧ H D = some (.lst (((List.range i).filter p).map f))) ⟨same_new hD, upd_same⟩ (fun i H _ q => hG H q.1) ?_ ?_
  · rintro i x H H2 hi ⟨s, hA⟩ hy
    refine turn i x H H2 hi s hy _ _ (fun hp H6 s6 => ⟨_, s6 _ _ hA, small5 ?_, same_upd_of (s.trans s6) hD, ?_⟩) (fun hp H6 s6 => ⟨s.trans s6, ?_⟩)
    · rw [List.length_map]
      have := List.length_filter_le p (List.range i)
      rw [List.length_range] at this
      omega
    · rw [upd_same, List.range_succ, List.filter_append, List.map_append, List.filter_cons_of_pos hp]
      rfl
    · rw [s6 _ _ hA, List.range_succ, List.filter_append, List.map_append, List.filter_cons_of_neg (by rw [hp]; decide)]
      simp
  · rintro H ⟨s, hA⟩
    exact done H s hA
section
variable {X : Cx} {K : PySem.W.Frag}
/-- in a list, a tuple or a dict -/
def rInE (K : PySem.W.Frag) : R2 := fun x y H Q => rInS K x y H Q ∨ ∃ a o, y = .ref a ∧ DGet H a x o ∧ Q (.bl o.isSome) H
theorem k_inE (hu : X.A.units + 1 < cLine) (e : X.K = K := by rfl) : OpR X (compareOp .In) (rInE K) := by
  subst e
  intro pins s σ H x y v u Q I rx ry h
  rcases h with h | ⟨a, o, rfl, hd, q⟩
  · exact op_in_seq pins s σ H x y v u Q I rx ry h
  · cases ry
    exact d_in hu I hd rx fun s' I' => ⟨.bl _, H, I', rfl, q⟩
def rNotE (K : PySem.W.Frag) : R2 := fun x y H Q => rNotS K x y H Q ∨ ∃ a o, y = .ref a ∧ DGet H a x o ∧ Q (.bl (!o.isSome)) H
theorem k_notinE (hu : X.A.units + 1 < cLine) (e : X.K = K := by rfl) : OpR X (compareOp .NotIn) (rNotE K) := by
  subst e
  intro pins s σ H x y v u Q I rx ry h
  rcases h with h | ⟨a, o, rfl, hd, q⟩
  · exact op_notIn_seq pins s σ H x y v u Q I rx ry h
  · cases ry
    exact d_notIn hu I hd rx fun s' I' => ⟨.bl _, H, I', rfl, q⟩
end
section
open PySem.W PySem.Calls
theorem contains_own {prog : Program} {w : World} {A : Around} {E : Value → Shared → Prop} {s : Shared} {K : Frag} {x C f : Addr} {ox : Obj} {od : Option Obj} {v : Value} {Q : Bool → Shared → Prop} (X : K.In s.heap) (I : InstAt s.heap x ox C od)
    (hs : findIn K (.ref C) "__contains__" = some (some (.ref f))) (hf : typeIn K (.ref f) = some (.type "function"))
    (h : wpAny (model prog w) A (call (.ref f) [.ref x, v]) (fun r s' => wpAny (model prog w) A (truthy r) Q E s') E s) : wpAny (model prog w) A (contains (.ref x) v) Q E s := by
  unfold contains
  refine wpAny_holding ?_
  refine wpAny_bind (wpAny_bind (I.type.here ((looks_findIn X hs).here ?_)))
  show wpAny _ _ (if (some (Value.ref f) == some Value.none) = true then _ else _) _ _ _
  rw [if_neg (by simp)]
  unfold callSpecialUnlessNone?
  refine wpAny_bind (wpAny_bind (wpAny_bind (I.type.here ((looks_findIn X hs).here ?_))))
  refine wpAny_holding (wpAny_bind ((bind_fn X _ hf).here ?_))
  show wpAny _ _ (if (Value.ref f == Value.none) = true then _ else _) _ _ _
  rw [if_neg (by simp)]
  exact wpAny_bind (wpAny_mono h (fun _ _ z => wpAny_pure z) fun _ _ z => z)
end
section
variable {X : Cx} {k : Nat} {f : Addr} {fd : FuncData} {ps : List Str} {sp : Sp} {C : Addr}
/-- x in y, y an instance of the class at C that has its own `in` -/
def rInOwn (C : Addr) (sp : Sp) : R2 := fun x y H Q => ∃ (a dx : Addr) (fs : List (Str × V)), y = .ref a ∧ H a = some (.ins C dx fs) ∧ sp [.ref a, x] H (fun z H2 => ∃ b, z = .bl b ∧ Q (.bl b) H2) E0
theorem op_inOwn (F : FnOk X.prog X.w X.K X.mg X.base CX0 k f fd ps sp) (hr : Room k X.A) (hs : PySem.W.findIn X.K (.ref C) "__contains__" = some (some (.ref f))) (hf : PySem.W.typeIn X.K (.ref f) = some (.type "function")) (hb : Binds X.K fd ps []) :
    OpR X (compareOp .In) (rInOwn C sp) := by
  intro pins s σ H x y v u Q I rx ry h
  obtain ⟨a, dx, fs, rfl, ha, hsp⟩ := h
  cases ry
  obtain ⟨mA, J, _⟩ := ins_get I.hok ha
  obtain ⟨od, J, _⟩ := J.look
  show wpAny (model X.prog X.w) X.A (contains (.ref a) v >>= fun b => pure (.bool b)) (EP X pins σ Q) X.xe s
  refine wpAny_bind (contains_own I.kIn J hs hf ?_)
  have r2 : Vals [V.ref a, x] [Value.ref a, v] := .cons rfl (.cons rx .nil)
  have hl := r2.length
  rw [F.len _ _ _ _ hsp] at hl
  refine wpAny_call (codeAny_mono (F.run X.A X.stack s H ⟨[.ref a, v], []⟩ [.ref a, v] [.ref a, x] _ E0 hr I.env0 (by
    have z := hb s [.ref a, v] I.kIn (by simpa using hl.symm)
    simpa using z) r2 hsp) fun r s2 hq => ?_)
  cases r with
  | error e => exact False.elim hq
  | ok fl =>
    cases fl with
    | next => exact False.elim hq
    | brk => exact False.elim hq
    | cont => exact False.elim hq
    | ret w2 =>
      obtain ⟨z, H2, I2, rz, b, rfl, q2⟩ := I.after hq
      cases rz
      show wpAny _ _ (truthy (.bool b)) _ _ _
      unfold truthy
      exact wpAny_pure (wpAny_pure ⟨.bl b, H2, I2, rfl, q2⟩)
end
end SG

/-! x != y, x an instance of a class with an == of its own and no != -/
namespace SG
open PySem PySem.Spec PyProof.Rows L2
section
open PySem.W PySem.Calls Builtin
variable {prog : Program} {w : World} {A : Around} {E : Value → Shared → Prop} {s : Shared} {K : Frag} {x C f : Addr} {ox : Obj} {od : Option Obj} {name : Str} {b tb : Value}
theorem ifBound_b {M : Model} {i : String} {args : List Value} {Q : Option Value → Shared → Prop} (X : K.In s.heap) (I : InstAt s.heap x ox C od) (hs : findIn K (.ref C) name = some (some (.builtin i))) (hb : bindSpecial (.builtin i) (.ref x) = pure (.builtin i, [.ref x]))
    (h : wpAny M A (call (.builtin i) (.ref x :: args)) (fun v => Q (some v)) E s) : wpAny M A (callSpecialIfBound? (.ref x) name args) Q E s := by
  simp only [callSpecialIfBound?, bindSpecialIfBound?]
  refine wpAny_holding (wpAny_bind (wpAny_bind (wpAny_bind (I.type.here ((looks_findIn X hs).here ?_)))))
  refine wpAny_bind (wpAny_askSetting (wpAny_ite ?_))
  have fin : wpAny M A (call (.builtin i) ([.ref x] ++ args) >>= fun v => pure (some v)) Q E s := wpAny_bind (wpAny_mono h (fun v s' h' => wpAny_pure h') fun _ _ h' => h')
  rw [hb]
  split
  · exact wpAny_bind (wpAny_pure (wpAny_pure (by exact fin)))
  · exact wpAny_tryCatch (wpAny_bind (wpAny_pure (wpAny_pure (by exact fin))))
theorem ne_own {Q : Value → Shared → Prop} (hu : A.units + 1 < cLine) (X : K.In s.heap) (I : InstAt s.heap x ox C od) (hb : Looks (model prog w) s.heap (typeOf b) tb) (hn : notFirst K C tb = true)
    (hne : findIn K (.ref C) "__ne__" = some (some (.builtin "object.__ne__"))) (ho : mroIn K C (.type "object") = some true) (hs : findIn K (.ref C) "__eq__" = some (some (.ref f))) (hf : isFn K (.ref f) = true)
    (h : wpAny (model prog w) A.in1 (call (.ref f) [.ref x, b]) (fun v s' => ∃ r, v = .bool r ∧ Q (.bool (!r)) s') E s) : wpAny (model prog w) A (richCompare .NotEq (.ref x) b) Q E s := by
  have S := PySem.F.cmp_object.ne
  have sb : Looks (model prog w) s.heap (isInstance (.ref x) (.type "object")) true := I.type.andThen (looks_mroIn X ho)
  have one : wpAny (model prog w) A (tryCompare (.ref x) "__ne__" b) (fun r s' => ∃ v, r = some v ∧ Q v s') E s := by
    unfold tryCompare
    refine wpAny_bind (ifBound_b X I hne (S.bind _) ?_)
    refine wpAny_call (codeAny_call_builtin S.plain PySem.F.cmpEntry_ne ?_)
    refine check_slot PySem.F.cmpKind_ne PySem.F.cmpSplit_ne sb (PySem.F.cmpArgs_ne _ _) ?_
    unfold Builtin.«object.__ne__»
    refine wpAny_bind (wpAny_pure ?_)
    refine wpAny_bind (wpAny_cRoomFor hu ?_)
    refine wpAny_bind (ifBound_K X I hs hf (wpAny_mono h (fun v s' hv => ?_) fun _ _ e => e))
    obtain ⟨r, rfl, hq⟩ := hv
    show wpAny _ _ (truthy (.bool r) >>= _) _ _ _
    unfold truthy
    exact wpAny_bind (wpAny_pure (wpAny_pure (by exact wpAny_pure ⟨_, rfl, hq⟩)))
  unfold richCompare
  simp only [oneThing_ref]
  refine wpAny_holding (wpAny_bind (wpAny_cRoomFor (Nat.lt_of_succ_lt hu) ?_))
  refine wpAny_bind (I.type.here (wpAny_bind (hb.here ?_)))
  split
  · rename_i q
    have e : subIn K tb (.ref C) = some false := by
      rcases Bool.or_eq_true_iff.mp hn with e | e
      · rw [beq_iff_eq.mp e] at q; simp at q
      · exact beq_iff_eq.mp e
    refine wpAny_bind ((looks_subIn X e).here ?_)
    simp only [Bool.false_eq_true, if_false]
    refine wpAny_bind (wpAny_mono one (fun r s' z => ?_) fun _ _ e => e)
    obtain ⟨v, rfl, hq⟩ := z
    exact wpAny_pure hq
  · refine wpAny_bind (wpAny_pure ?_)
    simp only [Bool.false_eq_true, if_false]
    refine wpAny_bind (wpAny_mono one (fun r s' z => ?_) fun _ _ e => e)
    obtain ⟨v, rfl, hq⟩ := z
    exact wpAny_pure hq
end
section
variable {X : Cx} {k : Nat} {f : Addr} {fd : FuncData} {ps : List Str} {sp : Sp} {C : Addr}
def rNeOwn (K : PySem.W.Frag) (C : Addr) (sp : Sp) : R2 := fun x y H Q => ∃ (a dx : Addr) (fs : List (Str × V)) (tb : Value), x = .ref a ∧ H a = some (.ins C dx fs) ∧ TyX K H y tb ∧ PySem.W.notFirst K C tb = true ∧ sp [x, y] H (fun z H2 => ∃ r, z = .bl r ∧ Q (.bl (!r)) H2) E0
theorem op_neOwn {K : PySem.W.Frag} (F : FnOk X.prog X.w X.K X.mg X.base CX0 k f fd ps sp) (hr : Room (k + 1) X.A) (hne : PySem.W.findIn X.K (.ref C) "__ne__" = some (some (.builtin "object.__ne__"))) (ho : PySem.W.mroIn X.K C (.type "object") = some true)
    (hs : PySem.W.findIn X.K (.ref C) "__eq__" = some (some (.ref f))) (hf : PySem.W.isFn X.K (.ref f) = true) (hb : Binds X.K fd ps []) (eK : X.K = K := by rfl) :
    OpR X (compareOp .NotEq) (rNeOwn K C sp) := by
  subst eK
  intro pins s σ H x y v u Q I rx ry h
  obtain ⟨a, dx, fs, tb, rfl, ha, ht, hn, hsp⟩ := h
  cases rx
  obtain ⟨mA, J, _⟩ := ins_get I.hok ha
  obtain ⟨od, J, _⟩ := J.look
  obtain ⟨P, ⟨Z, hP, _⟩⟩ := kit_of I ry ht
  show wpAny (model X.prog X.w) X.A (richCompare .NotEq (.ref a) u) (EP X pins σ Q) X.xe s
  refine ne_own (hu_of hr) I.kIn J (Z.ty _ _ I.kIn hP) hn hne ho hs hf ?_
  have r2 : Vals [V.ref a, y] [Value.ref a, u] := .cons rfl (.cons ry .nil)
  have hl := r2.length
  rw [F.len _ _ _ _ hsp] at hl
  have e0 : Env0 X.prog X.w X.K X.mg X.base X.A.in1 X.stack s H := by
    have e := I.env0
    exact ⟨e.frames, e.mod, e.bs, e.bsz, e.funs, e.frf, e.hok, e.bare⟩
  refine wpAny_call (codeAny_mono (F.run X.A.in1 X.stack s H ⟨[.ref a, u], []⟩ [.ref a, u] [.ref a, y] _ E0 hr.in1 e0 (by
    have z := hb s [.ref a, u] I.kIn (by simpa using hl.symm)
    simpa using z) r2 hsp) fun r s2 hq => ?_)
  cases r with
  | error e => exact False.elim hq
  | ok fl =>
    cases fl with
    | next => exact False.elim hq
    | brk => exact False.elim hq
    | cont => exact False.elim hq
    | ret w2 =>
      obtain ⟨z, H2, I2, rz, r, rfl, q2⟩ := I.after hq
      cases rz
      exact ⟨r, rfl, .bl (!r), H2, I2, rfl, q2⟩
end
end SG

/-! Operators of own classes: x & y, x | y, x - y of one class, ~x. -/
namespace SG
open PySem PySem.Spec PyProof PyProof.Rows L2
section
variable {X : Cx} {k : Nat} {f C : Addr} {fd : FuncData} {ps : List Str} {sp : Sp}
def rBinOwn (K : PySem.W.Frag) (C : Addr) (sp : Sp) : R2 := fun x y H Q => ∃ (a dx : Addr) (fs : List (Str × V)), x = .ref a ∧ H a = some (.ins C dx fs) ∧ TyX K H y (.ref C) ∧ sp [x, y] H Q E0
theorem op_binOwn {K : PySem.W.Frag} {op : Operator} (F : FnOk X.prog X.w X.K X.mg X.base CX0 k f fd ps sp) (hr : Room k X.A) (hs : PySem.W.findIn X.K (.ref C) (PySem.dunder op.info.2) = some (some (.ref f))) (hf : PySem.W.isFn X.K (.ref f) = true) (hc : PySem.W.selfFirst X.K C = true) (hb : Binds X.K fd ps []) (eK : X.K = K := by rfl) :
    OpR X (binaryOp op) (rBinOwn K C sp) := by
  subst eK
  intro pins s σ H x y v u Q I rx ry h
  obtain ⟨a, dx, fs, rfl, ha, ht, hsp⟩ := h
  cases rx
  obtain ⟨mA, J, _⟩ := ins_get I.hok ha
  obtain ⟨od, J, _⟩ := J.look
  obtain ⟨P, ⟨Z, hP, _⟩⟩ := kit_of I ry ht
  obtain ⟨m, hF⟩ := I.fr
  refine PySem.W.binop_K (op := op) hF I.ok.mod.kin J (Z.ty _ _ I.kIn hP) hc hs hf ?_
  have r2 : Vals [V.ref a, y] [Value.ref a, u] := .cons rfl (.cons ry .nil)
  have hl := r2.length
  rw [F.len _ _ _ _ hsp] at hl
  refine wpAny_call (codeAny_mono (F.run X.A X.stack s H ⟨[.ref a, u], []⟩ [.ref a, u] [.ref a, y] Q E0 hr I.env0 (by
    have z := hb s [.ref a, u] I.kIn (by simpa using hl.symm)
    simpa using z) r2 hsp) fun r s2 hq => ?_)
  cases r with
  | error e => exact False.elim hq
  | ok fl =>
    cases fl with
    | next => exact False.elim hq
    | brk => exact False.elim hq
    | cont => exact False.elim hq
    | ret w2 =>
      obtain ⟨z, H2, I2, rz, q2⟩ := I.after hq
      have e2 : EP X pins σ Q w2 s2 := ⟨z, H2, I2, rz, q2⟩
      cases z <;> (try obtain ⟨_, rfl⟩ := rz) <;> (try cases rz) <;> exact e2
def rInvOwn (C : Addr) (sp : Sp) : V → Hp → VK → Prop := fun x H Q => ∃ (a dx : Addr) (fs : List (Str × V)), x = .ref a ∧ H a = some (.ins C dx fs) ∧ sp [x] H Q E0
theorem un_invOwn (F : FnOk X.prog X.w X.K X.mg X.base CX0 k f fd ps sp) (hr : Room k X.A) (hs : PySem.W.findIn X.K (.ref C) "__invert__" = some (some (.ref f))) (hf : PySem.W.isFn X.K (.ref f) = true) (hb : Binds X.K fd ps []) :
    UnR X (unaryOp .Invert) (rInvOwn C sp) := by
  intro pins s σ H x v Q I rx h
  obtain ⟨a, dx, fs, rfl, ha, hsp⟩ := h
  cases rx
  obtain ⟨mA, J, _⟩ := ins_get I.hok ha
  obtain ⟨od, J, _⟩ := J.look
  obtain ⟨m, hF⟩ := I.fr
  refine PySem.W.ksp_inv hF I.ok.mod.kin J hs hf ?_
  have r2 : Vals [V.ref a] [Value.ref a] := .cons rfl .nil
  have hl := r2.length
  rw [F.len _ _ _ _ hsp] at hl
  refine wpAny_call (codeAny_mono (F.run X.A X.stack s H ⟨[.ref a], []⟩ [.ref a] [.ref a] Q E0 hr I.env0 (by
    have z := hb s [.ref a] I.kIn (by simpa using hl.symm)
    simpa using z) r2 hsp) fun r s2 hq => ?_)
  cases r with
  | error e => exact False.elim hq
  | ok fl =>
    cases fl with
    | next => exact False.elim hq
    | brk => exact False.elim hq
    | cont => exact False.elim hq
    | ret w2 =>
      obtain ⟨z, H2, I2, rz, q2⟩ := I.after hq
      exact ⟨z, H2, I2, rz, q2⟩
end
end SG

/-! lcm of two; a method called by keywords alone. -/
namespace SG
open PySem PySem.Spec PyProof PyProof.Rows L2
section
variable {X : Cx}
def rLcm : List V → Hp → VK → Prop := fun vs H Q => ∃ a b : Nat, vs = [.int a, .int b] ∧ a < 2 ^ 30 ∧ b < 2 ^ 30 ∧ Q (.int ((Nat.lcm a b : Nat) : Int)) H
theorem cr_lcm : CallR X (.builtin "math.lcm") rLcm := by
  intro pins s σ H vs us Q I r h
  obtain ⟨a, b, rfl, ha, hb, q⟩ := h
  obtain ⟨t, u, rfl⟩ := Vals.int2 r
  have hl : Nat.lcm a b ≤ a * b := Nat.div_le_self _ _
  have hm : a * b ≤ 2 ^ 30 * 2 ^ 30 := Nat.mul_le_mul (Nat.le_of_lt ha) (Nat.le_of_lt hb)
  have e : (Nat.lcm 1 (a : Int).natAbs).lcm (b : Int).natAbs = Nat.lcm a b := by rw [Nat.lcm_one_left, Int.natAbs_natCast, Int.natAbs_natCast]
  refine PySem.W.mg_lcm (by rw [Int.natAbs_natCast]; omega) (by rw [Int.natAbs_natCast]; omega) ?_ ?_
  · rw [e, Int.natAbs_natCast]
    refine Nat.lt_of_le_of_lt (PySem.W.mg_log (k := 61) (by omega)) (by decide)
  · rw [e]
    exact ⟨.int _, H, I.tok _, ⟨_, rfl⟩, q⟩
end
section
variable {X : Cx} {k : Nat} {f C : Addr} {fd : FuncData} {ps ks : List Str} {sp : Sp} {m : Str} {apos pos : Pos} {o : Expr} {kws : List Keyword} {ta : TE} {tk : TA} {g : List Value → List Value → List Value} {gV : List V → List V → List V}
/-- o.m(k = e, ..) -/
def tMethSK (C : Addr) (m : Str) (sp : Sp) (gV : List V → List V → List V) (ta : TE) (tk : TA) : TE := fun σ H Q => ta σ H fun x H1 => ∃ a dx fs, x = .ref a ∧ H1 a = some (.ins C dx fs) ∧ fs.lookup m = none ∧ tk σ H1 fun zs H2 => sp (gV [x] zs) H2 Q E0
theorem pe_methSK {pl : Sem Bool} (he : PE X o ta) (c : Cls X.K C) (hm : Meth X.K C m f) (F : FnOk X.prog X.w X.K X.mg X.base CX0 k f fd ps sp) (hr : Room k X.A) (hb : KBinds X.K fd ps ks g gV) (hkw : PK X kws tk)
    (hall : (backToKw pos (keywordEach kws X.env)).all (·.1.isSome) = true := by rfl) (hks : (backToKw pos (keywordEach kws X.env)).filterMap (·.1) = ks := by rfl)
    (hpl : ((backTo pos (starEach [] X.env)).any (·.1) || (backToKw pos (keywordEach kws X.env)).any (·.1.isNone)) = false := by rfl)
    (ht : eval (.Call (.Attribute o m apos) [] kws pos) X.env = (do
      let ov ← eval o X.env
      standAt apos.atName
      let (f, first) ← holding [ov] (getMethod ov m pl)
      callWith pos f first (backTo pos (starEach [] X.env)) (backToKw pos (keywordEach kws X.env))) := by rfl) :
    PE X (.Call (.Attribute o m apos) [] kws pos) (tMethSK C m sp gV ta tk) := by
  refine ⟨fun pins s σ H Q I h => ?_⟩
  refine PySem.W.methodCall_KW (pl := pl) (thn (he.run pins s σ H _ I h) fun u s1 ⟨x, H1, I1, rx, a, dx, fs, ex, ea, l, q⟩ => ?_) ht
  subst ex
  obtain rfl : u = Value.ref a := rx
  refine getmeth_ok I1 ea c hm l ?_
  refine PySem.W.callWith_KW0 (first := [.ref a]) (h₀ := X.base) I1.ok.mod.kin hm.kp hall (thn (hkw.run pos pins s1 σ H1 _ I1 q) ?_) hpl
  rintro ws s2 ⟨zs, H2, I2, rz, q2⟩
  refine ⟨I2.kIn, ?_⟩
  rw [hks, List.append_nil]
  have r2 := hb.rel (vs := [V.ref a]) (us := [Value.ref a]) (.cons rfl .nil) rz
  have hl := r2.length
  rw [F.len _ _ _ _ q2] at hl
  refine wpAny_call (codeAny_mono (F.run X.A X.stack s2 H2 ⟨[.ref a], ks.zip ws⟩ _ _ Q E0 hr I2.env0 (hb.to s2 [.ref a] ws I2.kIn hl.symm) r2 q2) fun r s3 hq => ?_)
  cases r with
  | error e => exact False.elim hq
  | ok fl =>
    cases fl with
    | next => exact False.elim hq
    | brk => exact False.elim hq
    | cont => exact False.elim hq
    | ret w2 =>
      obtain ⟨z, H3, I3, rz3, q3⟩ := I2.after hq
      exact ⟨z, H3, I3, rz3, q3⟩
end
end SG

/-! A method called by one keyword. -/
namespace SG
open PySem PySem.Spec PyProof.Rows L2
def kwSelf1 {α : Type} : List α → List α → List α
  | [a], [x] => [a, x]
  | _, _ => []
theorem kwSelf1_rel {vs : List V} {us : List Value} {zs : List V} {ws : List Value} (a : Vals vs us) (b : Vals zs ws) : Vals (kwSelf1 vs zs) (kwSelf1 us ws) := by
  cases a with
  | nil => exact .nil
  | cons ra a =>
    cases a with
    | cons _ _ => cases b <;> exact .nil
    | nil =>
      cases b with
      | nil => exact .nil
      | cons rb b =>
        cases b with
        | nil => exact .cons ra (.cons rb .nil)
        | cons _ _ => exact .nil
theorem kwSelf1_args {α : Type} {us ws : List α} (h : (kwSelf1 us ws).length = 2) : ∃ a x, us = [a] ∧ ws = [x] := by
  match us, ws, h with
  | [a], [x], _ => exact ⟨a, x, rfl, rfl⟩
  | [], _, h => exact absurd h (by simp [kwSelf1])
  | [_], [], h => exact absurd h (by simp [kwSelf1])
  | [_], _ :: _ :: _, h => exact absurd h (by simp [kwSelf1])
  | _ :: _ :: _, _, h => exact absurd h (by simp [kwSelf1])
end SG

set_option maxHeartbeats 2000000
/-! Comprehensions whose result is any new object: what is done at each turn is told by a word of one's own. -/
namespace SG
open PySem PySem.Spec PyProof.Rows L2
/-- a new object (o0), walked over, each turn that is let does st -/
def tAny (o0 : Addr → HO) (wi : TI) (g : TG) (tt : TT) (st : L2.St → Hp → Addr → (Hp → Prop) → Prop) (vs : List Nat) : TE := fun σ H Q =>
  wi σ H fun J G => ∀ D, G D = none → ∃ W : Nat → Nat → Hp → Prop, (∃ m, W 0 m (upd G D (o0 D))) ∧
    ∀ i m G1, W i m G1 → (J.stop i G1 ∧ Q (.ref D) G1) ∨
      (J.go i G1 ∧ ∃ Nx : Hp → Prop, (∀ G', Nx G' → ∃ m', m' < m ∧ W (i + 1) m' G') ∧
        ∀ x G2, J.yld i G1 x G2 → g x (wipe σ vs) G2 fun τ G3 => wipe τ vs = wipe σ vs ∧ tt τ G3 fun b G4 => if b = true then st τ G4 D Nx else Nx G4)
abbrev Bdy := Addr → Env → (Unit → Shared → Prop) → (Value → Shared → Prop) → Shared → Prop
section
variable {X : Cx}
/-- what a loop's turn has to show -/
def TurnOk (X : Cx) (bd : Bdy) (tg iter : Expr) (ifs : List Expr) (it : Value) (D : Addr) (en : Env) (R : Result → Shared → Prop) (I : Nat → Shared → Prop) : Prop :=
  ∀ n t, I n t → wpAny (model X.prog X.w) X.A (pyNext it) (fun r t1 => match r with
    | none => R (.ok .next) t1
    | some v => wpAny (model X.prog X.w) X.A (letOwnedTupleGo tg it v) (fun _ t2 =>
        wpAny (model X.prog X.w) X.A (assign tg en v) (fun _ t3 =>
          wpAny (model X.prog X.w) X.A (forIn ifs true fun c r => if r = true then do let ok ← isTrue c en (eval c en); pure (ForInStep.yield ok) else pure (ForInStep.yield r)) (fun ok t4 =>
            if ok = true then bd D en (fun _ t5 => ∃ m, m < n ∧ I m t5) (notedBy (model X.prog X.w) X.A en fun e t' => R (.error e) t') t4 else ∃ m, m < n ∧ I m t4)
            (notedBy (model X.prog X.w) X.A en fun e t' => R (.error e) t') t3) (notedBy (model X.prog X.w) X.A en fun e t' => R (.error e) t') t2)
        (notedBy (model X.prog X.w) X.A en fun e t' => R (.error e) t') t1) (notedBy (model X.prog X.w) X.A en fun e t' => R (.error e) t') t
theorem any_core {pins : List (Addr × Obj)} {s : Shared} {σ : L2.St} {H : Hp} {Q : VK} {ex tg iter : Expr} {ifs : List Expr} {sc : Scope} {own : List (Str × Nat)} {ps : Pos} {wi : TI} {g : TG} {tt : TT} {st : L2.St → Hp → Addr → (Hp → Prop) → Prop} {o0 : Addr → HO} {mk : Sem Value} {bd : Bdy} {use : Option (Value → Sem Unit)} {Qf : Value → Shared → Prop}
    (hc : X.calm = true) (hN : X.N.Nodup) (I : L2.Inv X pins σ H s) (hi : PI X tg iter wi) (ok : BlkOk X.N X.env.scope sc own)
    (hg : ∀ (s : Shared) (H : Hp) (C : Addr) (cl : List (Str × Addr)) (fp : List Addr), PG (X.blk s H sc (compEnvC sc cl C X.env) fp) tg g)
    (ht : ∀ (s : Shared) (H : Hp) (C : Addr) (cl : List (Str × Addr)) (fp : List Addr), PTs (X.blk s H sc (compEnvC sc cl C X.env) fp) ifs tt)
    (hs : ∀ x, foldedSetIterable iter X.env x = pure x) (hcl : clausesOf ex = [⟨tg, iter, ifs, 0⟩])
    (hmk : ∀ (t : Shared) (G : Hp) (E : Value → Shared → Prop) (Qv : Value → Shared → Prop), L2.Inv X pins σ G t → (∀ ob : Obj, L2.Inv X pins σ (upd G t.heap.objs.size (o0 t.heap.objs.size)) { t with heap := t.heap.push ob } → Qv (.ref t.heap.objs.size) { t with heap := t.heap.push ob }) → wpAny (model X.prog X.w) X.A mk Qv E t)
    (hst : ∀ (it ac : Value) (en : Env) (R : Result → Shared → Prop) (t : Shared), codeAny (model X.prog X.w) X.A (.compLoop ex 0 it ac en) R t →
      wpAny (model X.prog X.w) X.A (pyIter it) (fun it' t' => codeAny (model X.prog X.w) X.A (.compLoop ex 0 it' ac en) R t') (notedBy (model X.prog X.w) X.A en fun x t' => R (.error x) t') t → codeAny (model X.prog X.w) X.A (.compStart ex 0 it ac en) R t)
    (hlp : ∀ (it : Value) (D : Addr) (en : Env) (R : Result → Shared → Prop) (J : Nat → Shared → Prop), TurnOk X bd tg iter ifs it D en R J → ∀ n t, J n t → codeAny (model X.prog X.w) X.A (.compLoop ex 0 it (.ref D) en) R t)
    (hbd : ∀ (t : Shared) (G : Hp) (C : Addr) (cl : List (Str × Addr)) (fp : List Addr) (pins' : List (Addr × Obj)) (τ : L2.St) (G1 : Hp) (t1 : Shared) (D : Addr) (Nx : Hp → Prop) (F : Unit → Shared → Prop) (E : Value → Shared → Prop),
      L2.Inv (X.blk t G sc (compEnvC sc cl C X.env) fp) pins' τ G1 t1 → st τ G1 D Nx → (∀ t2 G2, L2.Inv (X.blk t G sc (compEnvC sc cl C X.env) fp) pins' τ G2 t2 → Nx G2 → F () t2) → bd D (compEnvC sc cl C X.env) F E t1)
    (h : tAny o0 wi g tt st (own.map (·.2)) σ H Q)
    (hRR : ∀ D C s' m H', L2.Inv X pins σ H' s' → Q (.ref D) H' → s'.heap.Ns C m → FpOk X pins H' C → compPost (model X.prog X.w) X.A X.xe use Qf (.ref D) C (.ok .next) s') :
    wpAny (model X.prog X.w) X.A (comprehension ex sc X.env ps mk false (eval iter X.env) use) Qf X.xe s := by
  have fr : ∀ y ∈ sc.names, y.2 = .free → ∃ c, X.env.cells.lookup y.1 = some c := fun y hy e => (ok.free y hy e).elim (fun k => I.ok.has _ (.inl k)) fun k => I.ok.has _ (.inr k)
  refine wpAny_comprehension_free (use := use) hcl hs (closure_ok fr) ok.kind (fun y hy e => by rw [ok.uniq y hy, e]) (thn (hi.run pins s σ H _ I h) fun xv t1 h1 => thn h1 fun itv t2 h2 => ?_)
  obtain ⟨it, fp, tn, J, G2, rfl, I2, T, stt, f2, q⟩ := h2
  refine hmk t2 G2 _ _ I2 fun ob I3 => newEnv_comp ?_
  have fD : G2 t2.heap.objs.size = none := I2.hok.fresh (Nat.le_refl _)
  obtain ⟨W, ⟨m0, w0⟩, turn⟩ := q _ fD
  obtain ⟨D, hD⟩ : ∃ D, D = t2.heap.objs.size := ⟨_, rfl⟩
  obtain ⟨t3, ht3⟩ : ∃ t3 : Shared, t3 = { t2 with heap := t2.heap.push ob } := ⟨_, rfl⟩
  have hp3 : t3.heap = t2.heap.push ob := by rw [ht3]
  rw [← hD] at I3 w0 turn fD ⊢
  rw [← ht3] at I3 ⊢
  have up : ∀ b ∈ fp, b < t2.heap.objs.size := fun b hb => by
    obtain ⟨o, e, _⟩ := T.obj _ _ stt b hb
    exact Heap.lt_size e
  have f3 : ∀ b ∈ fp, FpOk X pins (upd G2 D (o0 D)) b ∧ b < t3.heap.objs.size := fun b hb => ⟨⟨(upd_ne (by rw [hD]; exact Nat.ne_of_lt (up b hb))).trans (f2 b hb).1, (f2 b hb).2⟩, by rw [hp3, Heap.size_push]; exact Nat.lt_succ_of_lt (up b hb)⟩
  have tn3 : tn 0 t3.heap := T.keep _ _ _ stt fun b _ o e => by rw [hp3]; exact Heap.get?_push_of_some _ e
  have I4 := block_start I3 ok hN f3
  have pg := hg t3 (upd G2 D (o0 D)) t3.heap.objs.size (cellsFrom (t3.heap.objs.size + 1) sc.names (cloFrom X.env.cells sc.names [])) fp
  have pt := ht t3 (upd G2 D (o0 D)) t3.heap.objs.size (cellsFrom (t3.heap.objs.size + 1) sc.names (cloFrom X.env.cells sc.names [])) fp
  have pb := hbd t3 (upd G2 D (o0 D)) t3.heap.objs.size (cellsFrom (t3.heap.objs.size + 1) sc.names (cloFrom X.env.cells sc.names [])) fp
  change codeAny _ _ (.compStart ex 0 (.ref it) (.ref D) (compEnvC sc (cellsFrom (t3.heap.objs.size + 1) sc.names (cloFrom X.env.cells sc.names [])) t3.heap.objs.size X.env)) (compPost (model X.prog X.w) X.A X.xe use Qf (.ref D) t3.heap.objs.size) { t3 with heap := pushCells (t3.heap.push { cls := .type "dict", data := .dict #[] }) sc.names }
  have none3 : ∀ b ∈ fp, (upd G2 D (o0 D)) b = none := fun b hb => (f3 b hb).1.1
  generalize hen : compEnvC sc (cellsFrom (t3.heap.objs.size + 1) sc.names (cloFrom X.env.cells sc.names [])) t3.heap.objs.size X.env = en at I4 pg pt pb ⊢
  have loc : en.locals = t3.heap.objs.size := by rw [← hen]; rfl
  generalize upd G2 D (o0 D) = G3 at I3 I4 pg pt pb w0 none3 f3
  obtain ⟨t4, ht4⟩ : ∃ t4 : Shared, t4 = { t3 with heap := pushCells (t3.heap.push { cls := .type "dict", data := .dict #[] }) sc.names } := ⟨_, rfl⟩
  rw [← ht4] at I4 ⊢
  have tn4 : tn 0 t4.heap := T.keep _ _ _ tn3 fun b _ o e => by rw [ht4]; exact pushCells_keeps _ _ _ _ (Heap.get?_push_of_some _ e)
  have stat : ∀ {τ : L2.St} {G' : Hp} {t' : Shared}, L2.Inv (X.blk t3 G3 sc en fp) [] τ G' t' → (∀ b ∈ fp, G' b = none) → ∀ b ∈ fp, FpOk (X.blk t3 G3 sc en fp) [] G' b := fun {τ G' t'} I' hn b hb =>
    ⟨hn b hb, (I'.ok.exf b hb).1, I'.ok.exfs b hb, .inl hb, fun x c e => (I'.ok.exf b hb).2 x c e, fun p hp => (nomatch (show p ∈ ([] : List (Addr × Obj)) from hp))⟩
  have whole : codeAny (model X.prog X.w) X.A (.compLoop ex 0 (.ref it) (.ref D) en) (compPost (model X.prog X.w) X.A X.xe use Qf (.ref D) t3.heap.objs.size) t4 := by
    refine hlp _ _ _ _ (fun n t' => ∃ i G', L2.Inv (X.blk t3 G3 sc en fp) [] (wipe σ (own.map (·.2))) G' t' ∧ tn i t'.heap ∧ (∀ b ∈ fp, G' b = none) ∧ W i n G') ?_ m0 _ ⟨0, G3, I4, tn4, none3, w0⟩
    rintro n t5 ⟨i, G5, I5, tn5, n5, w5⟩
    rcases turn i n G5 w5 with ⟨stop, fine⟩ | ⟨go, Nx, less, step⟩
    case inl =>
      refine thnF (T.done (X.blk t3 G3 sc en fp) rfl rfl rfl hc i [] t5 _ G5 (fun _ _ => False) I5 (stat I5 n5) tn5 stop) fun r t6 ⟨er, I6⟩ => ?_
      subst er
      have nC : G5 t3.heap.objs.size = none := loc ▸ (show G5 en.locals = none from I6.free)
      obtain ⟨m, hn, _⟩ := I6.loc
      exact hRR D t3.heap.objs.size t6 m G5 (I3.call' (ch := fp) I6.os I6.base I6.hok I6.bare fun b hb => ⟨(f3 b hb).1.2.2.2.1, (f3 b hb).1.2.1, (f3 b hb).1.2.2.2.2.1, (f3 b hb).1.2.2.2.2.2⟩) fine (loc ▸ (show t6.heap.Ns en.locals m from hn)) (I3.fpOk (Nat.le_refl _) nC)
    refine thnF (T.item (X.blk t3 G3 sc en fp) rfl rfl rfl hc i [] t5 _ G5 (fun _ _ => False) I5 (stat I5 n5) tn5 go) fun r t6 ⟨u, er, h6⟩ => ?_
    subst er
    refine thnF h6 fun _ t7 ⟨x, G7, I7, r7, y7, tn7, n7⟩ => ?_
    refine thnF (pg.run _ t7 _ G7 x u _ (I7.pinned (stat I7 n7) (T.obj _ _ tn7)) r7 (step x G7 y7)) fun _ t8 ⟨τ, G8, I8, wτ, q8⟩ => ?_
    refine thnF (pt.run _ t8 τ G8 _ I8 q8) fun b t9 ⟨G9, I9, q9⟩ => ?_
    have last : ∀ {t' : Shared} {G' : Hp}, L2.Inv (X.blk t3 G3 sc en fp) ([] ++ pinsAt fp t7.heap) τ G' t' → Nx G' → ∃ m, m < n ∧ ∃ i G', L2.Inv (X.blk t3 G3 sc en fp) [] (wipe σ (own.map (·.2))) G' t' ∧ tn i t'.heap ∧ (∀ b ∈ fp, G' b = none) ∧ W i m G' := fun {t' G'} I' nx => by
      obtain ⟨m', lt, w'⟩ := less G' nx
      have held : ∀ b ∈ fp, ∀ o, t7.heap.get? b = some o → t'.heap.get? b = some o ∧ G' b = none := fun b hb o e => by
        have z := I'.pin (b, o) (List.mem_append_right _ (List.mem_append_right _ (mem_pinsAt hb e)))
        exact ⟨z.1, z.2.1⟩
      have len : (wipe σ (own.map (·.2))).length = τ.length := by rw [← wτ, wipe_length]
      refine ⟨m', lt, i + 1, G', (I'.unpinned (pins := [])).weak len (fun j v e => (wipe_some (wτ ▸ e)).1), T.keep _ _ _ tn7 fun b hb o e => (held b hb o e).1, fun b hb => ?_, w'⟩
      obtain ⟨o, e, _⟩ := T.obj _ _ tn7 b hb
      exact (held b hb o e).2
    cases b with
    | false =>
      rw [if_neg (by decide)] at q9 ⊢
      exact last I9 q9
    | true =>
      rw [if_pos rfl] at q9 ⊢
      exact pb _ τ G9 t9 D Nx _ _ I9 q9 fun t2 G2 I2 nx => last I2 nx
  exact hst _ _ _ _ _ whole (T.self X.A 0 _ _ _ tn4 whole)
end
end SG

set_option maxHeartbeats 2000000
/-! {text for ..}, {tuple: value for ..}, d.setdefault(tuple, x). -/
namespace SG
open PySem PySem.Spec PyProof.Rows L2
section
variable {P : Program} {w : World} {A : Around} {E : Value → Shared → Prop} {s : Shared}
theorem SetS.add {a : Addr} {l : List Str} {k : Str} {tk : Tok} {Q : Value → Shared → Prop} (R : SetS P w s.heap a l) (room : l.length + 1 < scanBound)
    (fin : ∀ h2, Heap.SameBut a s.heap h2 → SetS P w h2 a (if k ∈ l then l else k :: l) → Q .none { s with heap := h2, toks := s.toks + 1 }) : wpAny (model P w) A (call (.builtin "set.add") [.ref a, .str k tk]) Q E s := by
  have ty : s.TypeIs (.ref a) "set" := by
    obtain ⟨o, _, _, _, ho, hex, _⟩ := R
    exact ⟨o, ho, hex.1⟩
  refine wpAny_call_entry PySem.F.slot_set_add ty PySem.F.entry_set_add ?_ (PySem.F.args_set_add_2 _ _)
  unfold Builtin.«set.add» Builtin.Frozenset.oneOther Builtin.Frozenset.addrOf setAdd
  simp only [List.isEmpty_nil, bind_assoc]
  refine wpAny_bind (wpAny_pure ?_)
  try dsimp only
  refine wpAny_bind (wpAny_pure ?_)
  try dsimp only
  refine wpAny_bind (wpAny_holding (wpAny_bind ((PySem.strKind P w).pyHash (k := k) (strKind_is P w k tk) ?_)))
  refine SetS.put (s := { s with toks := s.toks + 1 }) R room fun h2 sb new => ?_
  change wpAny _ _ (ret Value.none) _ _ _
  exact wpAny_pure ⟨_, rfl, fin h2 sb new⟩
end
section
variable {X : Cx}
/-- a turn that puts a text into the set -/
def stTx (P : Program) (w : World) (te : TE) : L2.St → Hp → Addr → (Hp → Prop) → Prop := fun τ G D Nx => te τ G fun y G2 => ∃ (k : Str) (l : List Str), y = .str k ∧ G2 D = some (SetO2 P w D l) ∧ l.length ≤ 1000 ∧ Nx (upd G2 D (SetO2 P w D (if k ∈ l then l else k :: l)))
theorem pe_scTx {P : Program} {w : World} {ex tg iter : Expr} {ifs : List Expr} {sc : Scope} {own : List (Str × Nat)} {ps : Pos} {wi : TI} {g : TG} {tt : TT} {te : TE} (hc : X.calm = true) (hN : X.N.Nodup) (hi : PI X tg iter wi) (ok : BlkOk X.N X.env.scope sc own)
    (hg : ∀ (s : Shared) (H : Hp) (C : Addr) (cl : List (Str × Addr)) (fp : List Addr), PG (X.blk s H sc (compEnvC sc cl C X.env) fp) tg g)
    (ht : ∀ (s : Shared) (H : Hp) (C : Addr) (cl : List (Str × Addr)) (fp : List Addr), PTs (X.blk s H sc (compEnvC sc cl C X.env) fp) ifs tt)
    (he : ∀ (s : Shared) (H : Hp) (C : Addr) (cl : List (Str × Addr)) (fp : List Addr), PE (X.blk s H sc (compEnvC sc cl C X.env) fp) ex te)
    (hs : ∀ x, foldedSetIterable iter X.env x = pure x := by intro _; rfl) (eP : X.prog = P := by rfl) (ew : X.w = w := by rfl) :
    PE X (.SetComp ex [⟨tg, iter, ifs, 0⟩] sc ps) (tAny (fun D => SetO2 P w D []) wi g tt (stTx P w te) (own.map (·.2))) := by
  subst eP ew
  refine ⟨fun pins s σ H Q I h => ?_⟩
  rw [PpSet.eval_SetComp]
  refine any_core (bd := fun D en F E t => wpAny (model X.prog X.w) X.A (eval ex en) (fun x t1 => wpAny (model X.prog X.w) X.A (call (.builtin "set.add") [.ref D, x]) (fun _ t2 => F () t2) E t1) E t) hc hN I hi ok hg ht hs rfl
    (fun t G E Qv J hq => ?_) (fun it ac en R t => PpSet.codeAny_compStart_set) (fun it D en R J turn n t j => PpSet.compLoopS_any J turn n j) (fun t G C cl fp pins' τ G1 t1 D Nx F E J hst fin => ?_) h fun D C s' m H' I' q hn f => ⟨m, hn, fun h2 sb => ?_⟩
  · refine PpSet.newSet_ok (hq _ ?_)
    exact J.laid (t' := t.toks) (fun b o e => Heap.get?_push_of_some _ e) (Nat.le_refl _) (setO2_new SetS.fresh)
  · refine thnF ((he t G C cl fp).run _ t1 τ G1 _ J hst) fun x t2 ⟨y, G2, J2, r, k, l, ey, hD, hl, nx⟩ => ?_
    subst ey
    obtain ⟨tk, rfl⟩ := r
    have R : SetS X.prog X.w t2.heap D l := (J2.hok D _ hD).1
    refine SetS.add R (by unfold scanBound; omega) fun h2 sb new => ?_
    have there : ∃ u, h2.get? D = some u := by
      have ⟨o, _, _, _, ho, _⟩ := new
      exact ⟨o, ho⟩
    exact fin _ _ (J2.write (e := D) (t' := t2.toks + 1) (by rw [hD]; trivial) (.inl rfl) (fun b u hb hu => (sb.2 b hb).trans hu) there (setO2_new new)) nx
  · obtain ⟨f0, f1, f2, f3, f4, f5⟩ := f
    exact ⟨.ref D, H', I'.turned (t' := s'.toks) (fun b o hb e => (sb.2 b hb).trans e) f0 f1 f3 f4 f5, rfl, q⟩
/-- a turn that puts a value at a tuple -/
def stDT (tk tv : TE) : L2.St → Hp → Addr → (Hp → Prop) → Prop := fun τ G D Nx => tk τ G fun y G1 => tv τ G1 fun z G2 => ∃ (kvs : List (List L2.Key × V)) (k : List L2.Key) (b : Addr), y = .ref b ∧ G2 b = some (.tup (k.map kV)) ∧ G2 D = some (.dT kvs) ∧ kvs.length < sizeLine ∧ Nx (upd G2 D (.dT (putK kvs k z)))
theorem dT_set {pins : List (Addr × Obj)} {σ : L2.St} {H : Hp} {s : Shared} {E : Value → Shared → Prop} {D b : Addr} {kvs : List (List L2.Key × V)} {k : List L2.Key} {v : V} {r : Value} {Q : Unit → Shared → Prop} {Y : Cx} (I : L2.Inv Y pins σ H s) (hu : Y.A.units + 1 < cLine) (hD : H D = some (.dT kvs)) (hb : H b = some (.tup (k.map kV)))
    (hl : kvs.length < sizeLine) (rv : RelV v r) (h : ∀ s', L2.Inv Y pins σ (upd H D (.dT (putK kvs k v))) s' → Q () s') : wpAny (model Y.prog Y.w) Y.A (dictSet D (.ref b) r) Q E s := by
  obtain ⟨z, nm, xs, rel, dd⟩ := dt_of I.hok hD
  have big : xs.length ≤ sizeLine := by rw [← Paired.length rel]; exact z
  have grown : (putK kvs k v).length ≤ sizeLine := Nat.le_trans (length_putK kvs k v) hl
  refine wpAny_dictSet_heap (hsz := big) (show Y.A.units < cLine by omega) (key_of I.hok hb) dd fun h2 d2 sb => h _ ?_
  obtain ⟨o, es, ep, ho, g2, g3, g4, _, g5⟩ := d2
  exact d_write I (by rw [hD]; trivial) sb ⟨o, ho⟩ ⟨grown, nm, _, (rel.put k hb rv).keeps fun c ys ec => (upd_ne (ne_of ec hD nofun)).trans ec, o, es, ep, ho, g2, g3, g4, g5⟩
end
end SG

set_option maxHeartbeats 2000000
/-! Dicts with tuple keys: {tuple: value for ..}, d.setdefault(tuple, x). -/
namespace SG
open PySem PySem.Spec PyProof.Rows L2
section
variable {X : Cx}
theorem pe_dcT {kx vx tg iter : Expr} {ifs : List Expr} {sc : Scope} {own : List (Str × Nat)} {ps : Pos} {wi : TI} {g : TG} {tt : TT} {tk tv : TE} (hu : X.A.units + 1 < cLine) (hc : X.calm = true) (hN : X.N.Nodup) (hi : PI X tg iter wi) (ok : BlkOk X.N X.env.scope sc own)
    (hg : ∀ (s : Shared) (H : Hp) (C : Addr) (cl : List (Str × Addr)) (fp : List Addr), PG (X.blk s H sc (compEnvC sc cl C X.env) fp) tg g)
    (ht : ∀ (s : Shared) (H : Hp) (C : Addr) (cl : List (Str × Addr)) (fp : List Addr), PTs (X.blk s H sc (compEnvC sc cl C X.env) fp) ifs tt)
    (hk : ∀ (s : Shared) (H : Hp) (C : Addr) (cl : List (Str × Addr)) (fp : List Addr), PE (X.blk s H sc (compEnvC sc cl C X.env) fp) kx tk)
    (he : ∀ (s : Shared) (H : Hp) (C : Addr) (cl : List (Str × Addr)) (fp : List Addr), PE (X.blk s H sc (compEnvC sc cl C X.env) fp) vx tv)
    (hs : ∀ x, foldedSetIterable iter X.env x = pure x := by intro _; rfl) :
    PE X (.DictComp kx vx [⟨tg, iter, ifs, 0⟩] sc ps) (tAny (fun _ => .dT []) wi g tt (stDT tk tv) (own.map (·.2))) := by
  refine ⟨fun pins s σ H Q I h => ?_⟩
  rw [arm_eval_DictComp]
  refine any_core (bd := fun D en F E t => wpAny (model X.prog X.w) X.A (eval kx en) (fun y t1 => wpAny (model X.prog X.w) X.A (eval vx en) (fun z t2 => wpAny (model X.prog X.w) X.A (dictSet D y z) F E t2) E t1) E t) hc hN I hi ok hg ht hs rfl
    (fun t G E Qv J hq => ?_) (fun it ac en R t => codeAny_compStart_dict) (fun it D en R J turn n t j => compLoop_anyD J turn n j) (fun t G C cl fp pins' τ G1 t1 D Nx F E J hst fin => ?_) h fun D C s' m H' I' q hn f => ⟨m, hn, fun h2 sb => ?_⟩
  · exact wpAny_newObj_type (hq _ (J.laid (t' := t.toks) (fun b o e => Heap.get?_push_of_some _ e) (Nat.le_refl _) (dt_empty t.heap J.big)))
  · refine thnF ((hk t G C cl fp).run _ t1 τ G1 _ J hst) fun x t2 ⟨y, G2, J2, r, q2⟩ => ?_
    refine thnF ((he t G C cl fp).run _ t2 τ G2 _ J2 q2) fun x2 t3 ⟨z, G3, J3, r3, kvs, k, b, ey, hb, hD, hl, nx⟩ => ?_
    subst ey
    obtain rfl : x = Value.ref b := r
    exact dT_set (Y := X.blk t G sc (compEnvC sc cl C X.env) fp) J3 hu hD hb hl r3 fun t4 J4 => fin _ _ J4 nx
  · obtain ⟨f0, f1, f2, f3, f4, f5⟩ := f
    exact ⟨.ref D, H', I'.turned (t' := s'.toks) (fun b o hb e => (sb.2 b hb).trans e) f0 f1 f3 f4 f5, rfl, q⟩
end
section
variable {prog : Program} {w : World} {A : Around} {E : Value → Shared → Prop} {s : Shared} {K : Type} [DecidableEq K] {knd : HeapKind prog w K}
theorem setDef_heap {d a : Addr} {xs : List (K × Addr × Value)} {k : K} {v : Value} {Q : Value → Shared → Prop} (room : knd.room A) (key : knd.is s.heap k a) (D : s.heap.DictOfH knd d xs) (few : xs.length ≤ sizeLine)
    (old : ∀ p, atKey xs k = some p → ∀ tk, Q p.2 { s with toks := tk })
    (new : atKey xs k = none → ∀ h2 tk, h2.DictOfH knd d (xs ++ [(k, a, v)]) → Heap.SameBut d s.heap h2 → Q v { s with heap := h2, toks := tk }) : wpAny (model prog w) A (dictSetDefault d (.ref a) v) Q E s := by
  obtain ⟨o, es, ep, ho, ex, dt, en, is, nd⟩ := D
  have sz := size_of_entries en
  unfold dictSetDefault
  with_reducible refine wpAny_holding ?_
  refine wpAny_bind (knd.pyHash room key (wpAny_bind (wpAny_dictFind_heap (s := { s with toks := s.toks + knd.draws k }) room key ho dt en is nd (fun no => ?_) fun j p at_ => ?_)))
  · have nk := atKey_none_of_get no
    have fresh := not_mem_keys_of_get no
    refine wpAny_bind (wpAny_rule (wpAny_bind (wpAny_updateDictKeys (hz := by omega) (s := { s with toks := s.toks + knd.draws k }) ho dt (wpAny_pure ?_))))
    refine new nk _ _ ⟨_, _, ep + 1, Heap.get?_update_self _ ho (Obj.isFreed_of_dict (Obj.data_mapDictKeys dt _)), ex.mapDictKeys _, Obj.data_mapDictKeys dt _, by simp [en, entryOfKey], fun x hx => ?_, ?_⟩ (Heap.SameBut.update ..)
    · rcases List.mem_append.mp hx with g | g
      · exact knd.keeps (is x g) ho dt (Heap.SameBut.update ..)
      · obtain rfl := List.mem_singleton.mp g
        exact knd.keeps key ho dt (Heap.SameBut.update ..)
    · rw [List.map_append, List.nodup_append]
      exact ⟨nd, by simp, fun x hx y hy e => fresh (by simp only [List.map_cons, List.map_nil, List.mem_singleton] at hy; rw [← hy, ← e]; exact hx)⟩
  · refine wpAny_bind (wpAny_dictEntries (s := { s with toks := s.toks + knd.draws k }) ho dt ?_)
    rw [entry_at en j, at_]
    exact wpAny_bind (wpAny_rule (wpAny_pure (old p (atKey_of_get nd at_) _)))
theorem meetsSetd {d b : Addr} {k : K} (x : Value) (nm : (d == sysModules) = false) :
    MeetsIn prog w (Builtin.«dict.setdefault» ⟨[.ref d, .ref b, x], []⟩) (fun A R s => ∃ xs, knd.room A.in1 ∧ knd.is s.heap k b ∧ s.heap.DictOfH knd d xs ∧ xs.length ≤ sizeLine ∧ (∀ p, atKey xs k = some p → ∀ tk, R (.ok (.ret p.2)) { s with toks := tk }) ∧
      (atKey xs k = none → ∀ h2 tk, h2.DictOfH knd d (xs ++ [(k, b, x)]) → Heap.SameBut d s.heap h2 → R (.ok (.ret x)) { s with heap := h2, toks := tk })) :=
  .of_wp fun A R s ⟨xs, room, key, D, few, old, new⟩ => by
    unfold Builtin.«dict.setdefault»
    refine wpAny_bind ?_
    unfold Builtin.Dict.keyAndDefault
    refine wpAny_bind (wpAny_notOrdered_dict D.typeIs ?_)
    refine wpAny_pure ?_
    dsimp only
    rw [if_neg (by rw [nm]; exact Bool.false_ne_true)]
    exact wpAny_bind (setDef_heap room key D few (fun p hp tk => wpAny_pure ⟨_, rfl, old p hp tk⟩) fun hn h2 tk d2 sb => wpAny_pure ⟨_, rfl, new hn h2 tk d2 sb⟩)
end
section
variable {X : Cx} {o e f : Expr} {td ty tx : TE} {apos cpos : Pos}
/-- d.setdefault(y, z), y a tuple -/
def tDSetdT (td ty tx : TE) : TE := fun σ H Q => td σ H fun x H1 => ∃ a, x = .ref a ∧ IsD H1 a ∧ ty σ H1 fun y H2 => tx σ H2 fun z H3 => ∃ (kvs : List (List L2.Key × V)) (k : List L2.Key) (b : Addr), H3 a = some (.dT kvs) ∧ y = .ref b ∧ H3 b = some (.tup (k.map kV)) ∧ kvs.length < sizeLine ∧
  (∀ v, valV kvs k = some v → Q v H3) ∧ (valV kvs k = none → Q z (upd H3 a (.dT (putK kvs k z))))
theorem pe_dsetdT (hu : X.A.units + 1 < cLine) (ho : PE X o td) (he : PE X e ty) (hf : PE X f tx) (m : M2 X o "setdefault" apos e f cpos) : PE X (.Call (.Attribute o "setdefault" apos) [e, f] [] cpos) (tDSetdT td ty tx) := by
  refine ⟨fun pins s σ H Q I h => ?_⟩
  refine wpAny_Call_method m.base m.few m.line PySem.F.plainAttrs_dict PySem.F.slot_dict_setdefault PySem.F.type_dict_setdefault (thn (ho.run pins s σ H _ I h) fun u t1 ⟨x, H1, J1, rx, a, ex, isd, q1⟩ => ?_)
  subst ex
  obtain rfl : u = Value.ref a := rx
  obtain ⟨g1, g2, _⟩ := isD_at J1 isd
  refine ⟨g1, g2, ?_⟩
  rw [m.trees]
  refine Calls.callWith_builtin rfl (Calls.evalArgs_plain (Calls.spliced_cons (thn (he.run pins t1 σ H1 _ J1 q1) fun yv t2 ⟨y, H2, J2, ry, q2⟩ =>
    Calls.spliced_cons (thn (hf.run pins t2 σ H2 _ J2 q2) fun zv t3 ⟨z, H3, J3, rz, kvs, k, b, ha, ey, hb, hl, q3, q4⟩ => Calls.spliced_nil ?_))))
  subst ey
  obtain rfl : yv = Value.ref b := ry
  obtain ⟨lz, nm, xs, rel, dd⟩ := dt_of J3.hok ha
  have big : xs.length ≤ sizeLine := by rw [← Paired.length rel]; exact lz
  refine call_meetsIn PySem.F.slot_dict_setdefault dd.typeIs PySem.F.entry_dict_setdefault (PySem.F.args_dict_setdefault_3 _ _ _) (meetsSetd (knd := tupleKind (mixKind X.prog X.w)) (k := k) zv nm) ⟨xs, tupleKind_room_in1 hu, key_of J3.hok hb, dd, big, fun p hp tk => ?_, fun hn h2 tk d2 sb => ?_⟩
  · have r := rel.val k
    rw [hp] at r
    cases ev : valV kvs k with
    | none =>
      rw [ev] at r
      exact (show False from r).elim
    | some v0 =>
      rw [ev] at r
      exact ⟨v0, H3, J3.tok tk, r, q3 v0 ev⟩
  · have r := rel.val k
    rw [hn] at r
    cases ev : valV kvs k with
    | some v0 =>
      rw [ev] at r
      exact (show False from r).elim
    | none =>
      have grown : (putK kvs k z).length ≤ sizeLine := Nat.le_trans (length_putK kvs k z) hl
      have st : storedH xs k b zv = xs ++ [(k, b, zv)] := storedH_new hn b zv
      rw [← st] at d2
      obtain ⟨o2, es, ep, ho2, g3, g4, g5, _, g6⟩ := d2
      have J4 := d_write (t' := tk) J3 (by rw [ha]; trivial) sb ⟨o2, ho2⟩ (show ObjOk X.prog X.w _ _ a (.dT (putK kvs k z)) from ⟨grown, nm, _, (rel.put k hb rz).keeps fun c ys ec => (upd_ne (ne_of ec ha nofun)).trans ec, o2, es, ep, ho2, g3, g4, g5, g6⟩)
      exact ⟨z, _, J4, rz, q4 ev⟩
end
end SG

set_option maxHeartbeats 2000000
/-! Walking a list or a tuple, whichever it is; walking d.items() of a dict with tuple keys. -/
namespace SG
open PySem PySem.Spec PyProof.Rows L2
section
variable {X : Cx} {tg : Expr}
/-- a list, or a tuple -/
def iSeq (K : PySem.W.Frag) (tl : TE) : TI := fun σ H R => tl σ H fun x H1 => ∃ a, x = .ref a ∧ ((∃ xs, SqL K H1 a xs) ∧ R (Itl K a) H1 ∨ (∃ xs, SqT K H1 a xs) ∧ R (Itt K a) H1)
theorem pi_seq {K : PySem.W.Frag} {e : Expr} {te : TE} (he : PE X e te) (eK : X.K = K := by rfl) : PI X tg e (iSeq K te) := by
  subst eK
  refine ⟨fun pins s σ H R I h => thn (he.run pins s σ H _ I h) fun v t1 h1 => ?_⟩
  obtain ⟨x, H1, J, r, a, rfl, q⟩ := h1
  obtain rfl : v = Value.ref a := r
  rcases q with ⟨⟨xs, hx⟩, q⟩ | ⟨⟨xs, hx⟩, q⟩
  · obtain ⟨its, rv, p, hz⟩ := J.list hx
    exact wpAny_pyIter_list p.isList (pi_one (tk := t1.toks) J _ (turn_list a _) ⟨_, Heap.get?_push_size _ rfl, rfl, rfl⟩ q)
  · obtain ⟨its, rv, p, hz⟩ := J.tuple hx
    exact wpAny_pyIter_tuple (items := its.toArray) p (pi_one (tk := t1.toks) J _ (turn_tuple a _) ⟨_, Heap.get?_push_size _ rfl, rfl, rfl⟩ q)
end
section
variable {X : Cx} {pins : List (Addr × Obj)} {σ : L2.St} {H : Hp} {s : Shared} {d : Addr} {o : Obj}
/-- a locked dict with tuple keys: its entries -/
theorem frzT_vals {kvs : List (List L2.Key × V)} (I : L2.Inv X pins σ H s) (h : H d = some (.frz o (.dT kvs))) : (d == sysModules) = false ∧ ∃ (es : Array DictEntry) (ep : Nat), o.data = .dict es ep ∧ DT.Raw s.heap d es ep ∧ es.size = kvs.length ∧
    ∀ (i : Nat) (k : List L2.Key) (v : V), kvs[i]? = some (k, v) → ∃ (en : DictEntry) (q : Addr), es[i]? = some en ∧ en.key = .ref q ∧ H q = some (.tup (k.map kV)) ∧ RelV v en.val := by
  obtain ⟨at_, lz, nm, xs, pr, o2, es, ep, ho, ex, dt, en, nd⟩ := I.hok d _ h
  rw [at_] at ho
  cases ho
  refine ⟨nm, es, ep, dt, ⟨o, at_, ex, dt⟩, by rw [size_of_entries en, Paired.length pr], fun i k v e => ?_⟩
  obtain ⟨b, hb, e1, e2, e3⟩ := paired_get pr e
  refine ⟨_, b.2.1, by rw [entry_at en i, hb]; rfl, rfl, ?_, e3⟩
  rw [show k = b.1 from e1] at *
  exact e1 ▸ e2
/-- d.items(): new pairs of the key's own tuple and the value -/
def ItT (d : Addr) (o : Obj) (kvs : List (List L2.Key × V)) : It :=
  ⟨fun i H => H d = some (.frz o (.dT kvs)) ∧ i < kvs.length,
   fun i H x H' => ∃ (p q : Addr) (k : List L2.Key) (v : V), kvs[i]? = some (k, v) ∧ x = .ref p ∧ H p = none ∧ H q = some (.tup (k.map kV)) ∧ H' = upd H p (.tup [.ref q, v]),
   fun i H => H d = some (.frz o (.dT kvs)) ∧ kvs.length ≤ i⟩
theorem turn_itemsT {P : Program} {w : World} {K : PySem.W.Frag} {kvs : List (List L2.Key × V)} {es : Array DictEntry} {ep : Nat} {elts : List Expr} {kk : Nat} {tpos : Pos} (it : Addr) (dt : o.data = .dict es ep) :
    Turn P w K (.Tuple elts kk tpos) (ItT d o kvs) [it] it (fun i h => ∃ a b, IsItemIter h it d i kvs.length ep a b) where
  mem := List.mem_singleton.mpr rfl
  obj := fun i h ⟨a, b, e⟩ c hc => by
    rw [List.mem_singleton.mp hc]
    exact ⟨_, e, fun v z => nomatch z⟩
  keep := fun i h h2 ⟨a, b, e⟩ k => ⟨a, b, k it (List.mem_singleton.mpr rfl) _ e⟩
  item := by
    intro X hP hw hK hc i pins s σ H E I hf ⟨a, b, st⟩ ⟨hd, hi⟩
    subst hP hw hK
    obtain ⟨nm, es2, ep2, dt2, raw, sz, ent⟩ := frzT_vals I hd
    obtain ⟨rfl, rfl⟩ := dict_ep dt dt2
    obtain ⟨k, v, hkv⟩ : ∃ k v, kvs[i]? = some (k, v) := ⟨(kvs[i]).1, (kvs[i]).2, List.getElem?_eq_getElem hi⟩
    obtain ⟨en, q, hen, ek, hq, rv⟩ := ent i k v hkv
    rw [← sz] at st hi
    have ei : es2[i] = en := by
      rw [Array.getElem?_eq_getElem hi] at hen
      exact Option.some.inj hen
    have below : it < s.heap.objs.size := Heap.lt_size st
    refine DT.nextI st raw hi fun h2 out tup z2 kept => ⟨_, rfl, wpAny_letOwnedTupleGo_items (s := { s with heap := h2 }) out fun h3 st3 sb => ?_⟩
    have t3 : h3.get? s.heap.objs.size = some { cls := .type "tuple", data := .seq #[es2[i].key, es2[i].val] } := (sb.2 _ (Nat.ne_of_gt below)).trans tup
    rw [ei, ek] at t3
    have new : ObjOk X.prog X.w (upd H s.heap.objs.size (.tup [.ref q, v])) h3 s.heap.objs.size (.tup [.ref q, v]) := ⟨by show 2 ≤ sizeLine; decide, [.ref q, en.val], .cons rfl (.cons rv .nil), ⟨_, t3, rfl, _, rfl⟩⟩
    have J : L2.Inv X pins σ (upd H s.heap.objs.size (.tup [.ref q, v])) { s with heap := h3 } :=
      I.turnedNew (t' := s.toks) (ch := [it]) (fun b ob hb e => (sb.2 b (fun z => hb (List.mem_singleton.mpr z))).trans (kept b ob (fun z => hb (List.mem_singleton.mpr z)) e)) hf (Nat.le_refl _) new
    refine ⟨.ref s.heap.objs.size, _, J, rfl, ⟨_, q, k, v, hkv, rfl, I.hok.fresh (Nat.le_refl _), hq, rfl⟩, ⟨_, _, by rw [← sz]; exact st3⟩, fun b hb => ?_⟩
    rw [List.mem_singleton.mp hb, upd_ne (Nat.ne_of_lt below)]
    exact (hf it (List.mem_singleton.mpr rfl)).1
  done := by
    intro X hP hw hK hc i pins s σ H E I hf ⟨a, b, st⟩ ⟨hd, hi⟩
    subst hP hw hK
    obtain ⟨nm, es2, ep2, dt2, raw, sz, ent⟩ := frzT_vals I hd
    obtain ⟨rfl, rfl⟩ := dict_ep dt dt2
    obtain ⟨f0, f1, f2, f3, f4, f5⟩ := hf it (List.mem_singleton.mpr rfl)
    rw [← sz] at st hi
    exact DT.endI (I.ok.hd hc) st raw hi fun h2 eb => ⟨rfl, I.turned (t' := s.toks) (fun b ob hb e => eb b ob hb e) f0 f1 f3 f4 f5⟩
  self := fun A i s Q E ⟨_, _, e⟩ h => PySem.W.kcp_self e h
def iItemsT (td : TE) : TI := fun σ H R => td σ H fun x H1 => ∃ (d : Addr) (o : Obj) (kvs : List (List L2.Key × V)), x = .ref d ∧ H1 d = some (.frz o (.dT kvs)) ∧ R (ItT d o kvs) H1
theorem pi_itemsT {e : Expr} {td : TE} {apos cpos : Pos} {elts : List Expr} {kk : Nat} {tpos : Pos} (he : PE X e td) (hb : attributeBase e "items" X.env (eval e X.env) = eval e X.env := by rfl) (hl : (apos.endLine == cpos.line) = true := by rfl) :
    PI X (.Tuple elts kk tpos) (.Call (.Attribute e "items" apos) [] [] cpos) (iItemsT td) := by
  refine ⟨fun pins s σ H R I h => wpAny_Call_method (T := "dict") (id := "dict.items") hb rfl hl PySem.F.plainAttrs_dict PySem.F.slot_dict_items PySem.F.type_dict_items (thn (he.run pins s σ H _ I h) fun u t1 h1 => ?_)⟩
  obtain ⟨x, H1, J, r, d, o, kvs, rfl, hd, q⟩ := h1
  obtain rfl : u = Value.ref d := r
  obtain ⟨nm, es, ep, dt, raw, sz, ent⟩ := frzT_vals J hd
  have ty := raw.typeIs (s := t1)
  obtain ⟨o1, ho1, ex1, _⟩ := id raw
  refine ⟨ty, fun a e => by injection e with e; exact ⟨o1, e ▸ ho1, ex1.2.1⟩, ?_⟩
  have J2 : L2.Inv X pins σ H1 { t1 with heap := t1.heap.push { cls := .type "dict_items", data := .fields #[.ref d] } } := J.kept (t' := t1.toks) fun b ob q => Heap.get?_push_of_some _ q
  have go : wpAny (model X.prog X.w) X.A (pyIter (.ref t1.heap.objs.size)) (PIE X pins σ (.Tuple elts kk tpos) R) X.xe { t1 with heap := t1.heap.push { cls := .type "dict_items", data := .fields #[.ref d] } } := by
    refine DT.iterI (d := d) (es := es) (ep := ep) ⟨_, Heap.get?_push_size _ rfl, rfl, rfl⟩ (raw.push _) (pi_one (tk := t1.toks) J2 _ (turn_itemsT _ dt) ⟨.none, .none, ?_⟩ q)
    rw [← sz]
    exact Heap.get?_push_size _ rfl
  change wpAny _ _ (callWith cpos (.builtin "dict.items") [.ref d] [] []) _ X.xe t1
  exact method_meetsIn PySem.F.slot_dict_items PySem.F.entry_dict_items rfl (PySem.evalArgs_none ⟨rfl, ty, PySem.F.args_dict_items_1 _, _, DT.meetsItems (es := es) (ep := ep) nm, raw, go⟩)
theorem walk_itemsT {kvs : List (List L2.Key × V)} : Walk (ItT d o kvs) kvs.length (fun H => H d = some (.frz o (.dT kvs))) (fun i H x H' => ∃ (p q : Addr) (k : List L2.Key) (v : V), kvs[i]? = some (k, v) ∧ x = .ref p ∧ H p = none ∧ H q = some (.tup (k.map kV)) ∧ H' = upd H p (.tup [.ref q, v])) :=
  ⟨fun _ _ hi q => ⟨q, hi⟩, fun _ q => ⟨q, Nat.le_refl _⟩, fun _ _ _ _ _ _ y => y⟩
end
end SG

/-! d < e of data of one shape. -/
namespace SG
open PySem PySem.Spec PyProof.Rows L2
def rLtD (K : PySem.W.Frag) : R2 := fun x y H Q => ∃ d e, Dp K H x d ∧ Dp K H y e ∧ PySem.W.alike d e = true ∧ d ≠ .none ∧ d.depth ≤ 60 ∧ Q (.bl (PySem.W.dataLt d e)) H
theorem op_ltD {X : Cx} {K : PySem.W.Frag} (hu : X.A.units + 64 < cLine) (eK : X.K = K := by rfl) : OpR X (compareOp .Lt) (rLtD K) := by
  subst eK
  intro pins s σ H x y v u Q I rx ry h
  obtain ⟨d, e, hd, he, al, nn, dep, q⟩ := h
  obtain ⟨as, ra⟩ := hd.reads I _ _ _ rx
  obtain ⟨bs, rb⟩ := he.reads I _ _ _ ry
  refine PySem.W.lt_data ra rb al nn (by have := Nat.min_le_left d.depth e.depth; omega) ⟨.bl _, H, I, rfl, q⟩
end SG

set_option maxHeartbeats 2000000
/-! Walking the keys of a dict that the walked expression itself makes: it is locked when it is walked. -/
namespace SG
open PySem PySem.Spec PyProof.Rows L2
section
variable {X : Cx} {tg e : Expr} {td : TE}
def iKeysL (td : TE) : TI := fun σ H R => td σ H fun x H1 => ∃ (d : Addr) (kvs : List (L2.Key × V)), x = .ref d ∧ H1 d = some (.dK kvs) ∧ ∀ o, R (Itk d o kvs) (upd H1 d (.frz o (.dK kvs)))
theorem pi_keysL (he : PE X e td) : PI X tg e (iKeysL td) := by
  refine ⟨fun pins s σ H R I h => ?_⟩
  refine thn (he.run pins s σ H _ I h) fun u s1 ⟨x, H1, I1, rx, d, kvs, ex, hd, q⟩ => ?_
  subst ex
  obtain rfl : u = Value.ref d := rx
  obtain ⟨o, I2⟩ := I1.lock hd trivial
  obtain ⟨hs, hgd, hx, es, ep, vs, hdt, hsz, kv, hm⟩ := I2.frzK upd_same
  refine iter_keys hs hgd hx hdt (pi_one (tk := s1.toks) I2 _ (turn_keys _ hdt) ⟨_, Heap.get?_push_size _ rfl, rfl, ?_⟩ (q o))
  rw [hsz] <;> rfl
end
end SG

namespace SG
open PySem PySem.Spec PyProof.Rows L2
local macro_rules
  | `(tactic| clean_wf) => `(tactic| repeat (first | refine ⟨_, rfl, ?_⟩ | refine ⟨rfl, ?_⟩ | refine ⟨_, _, rfl, ?_⟩ | refine ⟨_, _, rfl, rfl, ?_⟩ | refine ⟨_, _, _, rfl, ?_⟩ | refine ⟨_, _, _, _, rfl, ?_⟩))
local macro_rules
  | `(tactic| exists $u:ident, $n:ident, $H:ident, $q:ident, $e:ident) => `(tactic| (refine ⟨by first | exact Nat.zero_le _ | assumption | (simp only [List.length_cons, List.length_nil]; decide), fun $u $n => ?_⟩; generalize hh : upd _ $u _ = $H; obtain ⟨$q, $e⟩ := mkq $n hh; clear hh))
local macro_rules
  | `(tactic| simp_wf) => `(tactic| first | assumption | exact upd_same | (refine (by assumption : Same _ _) _ _ ?_; simp_wf) | (refine (by assumption : Kept _ _ _ _) _ _ ?_ (by assumption) (by assumption); simp_wf))
local macro_rules
  | `(tactic| decreasing_trivial) => `(tactic| first | assumption | exact .inl (.inl (by assumption)) | (refine sameT (by assumption) ?_; decreasing_trivial))
local macro_rules
  | `(tactic| array_get_dec) => `(tactic| first | assumption | (refine CdAt.same (by assumption) ?_; array_get_dec))
def topS (i : Nat) : Stmt := PySem.Challenge.pw_serialhouse_k22_steps_from_word_to_word.main.body.getD i (.Pass ⟨0, 0, 0, 0⟩)
abbrev s_goals_by_state : Stmt := topS 8
abbrev N_goals_by_state : List Str := ["form", "goals", "state", "_", "goal"]
theorem sc_goals_by_state : FnScope N_goals_by_state ["form"] (defScope s_goals_by_state) := ⟨rfl, rfl, rfl, by decide +kernel, rfl, by decide +kernel, by decide +kernel⟩
abbrev s_counts_at_ends : Stmt := topS 9
abbrev N_counts_at_ends : List Str := ["form", "state"]
theorem sc_counts_at_ends : FnScope N_counts_at_ends ["form"] (defScope s_counts_at_ends) := ⟨rfl, rfl, rfl, by decide +kernel, rfl, by decide +kernel, by decide +kernel⟩
abbrev s_longer : Stmt := topS 10
abbrev N_longer : List Str := ["goals", "now", "row", "goal"]
theorem sc_longer : FnScope N_longer ["goals", "now"] (defScope s_longer) := ⟨rfl, rfl, rfl, by decide +kernel, rfl, by decide +kernel, by decide +kernel⟩
abbrev s_is_integer : Stmt := topS 12
abbrev N_is_integer : List Str := ["thing"]
theorem sc_is_integer : FnScope N_is_integer ["thing"] (defScope s_is_integer) := ⟨rfl, rfl, rfl, by decide +kernel, rfl, by decide +kernel, by decide +kernel⟩
abbrev s_is_below : Stmt := topS 13
abbrev N_is_below : List Str := ["thing", "size"]
theorem sc_is_below : FnScope N_is_below ["thing", "size"] (defScope s_is_below) := ⟨rfl, rfl, rfl, by decide +kernel, rfl, by decide +kernel, by decide +kernel⟩
abbrev s_is_ascending : Stmt := topS 14
abbrev N_is_ascending : List Str := ["things", "one", "other"]
theorem sc_is_ascending : FnScope N_is_ascending ["things"] (defScope s_is_ascending) := ⟨rfl, rfl, rfl, by decide +kernel, rfl, by decide +kernel, by decide +kernel⟩
abbrev s_is_tuple_of : Stmt := topS 15
abbrev N_is_tuple_of : List Str := ["thing", "many"]
theorem sc_is_tuple_of : FnScope N_is_tuple_of ["thing", "many"] (defScope s_is_tuple_of) := ⟨rfl, rfl, rfl, by decide +kernel, rfl, by decide +kernel, by decide +kernel⟩
abbrev s_useful_moves : Stmt := topS 19
abbrev N_useful_moves : List Str := ["form", "useful", "moves", "state", "letter", "goal", "_"]
theorem sc_useful_moves : FnScope N_useful_moves ["form"] (defScope s_useful_moves) := ⟨rfl, rfl, rfl, by decide +kernel, rfl, by decide +kernel, by decide +kernel⟩
abbrev s_is_endless : Stmt := topS 20
abbrev N_is_endless : List Str := ["form", "moves", "sources", "state", "_", "goal", "waiting", "taken"]
theorem sc_is_endless : FnScope N_is_endless ["form"] (defScope s_is_endless) := ⟨rfl, rfl, rfl, by decide +kernel, rfl, by decide +kernel, by decide +kernel⟩
abbrev s_is_letter : Stmt := topS 22
abbrev N_is_letter : List Str := ["thing"]
theorem sc_is_letter : FnScope N_is_letter ["thing"] (defScope s_is_letter) := ⟨rfl, rfl, rfl, by decide +kernel, rfl, by decide +kernel, by decide +kernel⟩
abbrev s_is_word : Stmt := topS 23
abbrev N_is_word : List Str := ["thing", "sign"]
theorem sc_is_word : FnScope N_is_word ["thing"] (defScope s_is_word) := ⟨rfl, rfl, rfl, by decide +kernel, rfl, by decide +kernel, by decide +kernel⟩
abbrev s_number_of : Stmt := topS 26
abbrev N_number_of : List Str := ["form", "word"]
theorem sc_number_of : FnScope N_number_of ["form", "word"] (defScope s_number_of) := ⟨rfl, rfl, rfl, by decide +kernel, rfl, by decide +kernel, by decide +kernel⟩
abbrev s_how_many_ahead : Stmt := topS 27
abbrev N_how_many_ahead : List Str := ["form", "text", "layers"]
theorem sc_how_many_ahead : FnScope N_how_many_ahead ["form", "text"] (defScope s_how_many_ahead) := ⟨rfl, rfl, rfl, by decide +kernel, rfl, by decide +kernel, by decide +kernel⟩
abbrev s_many_to : Stmt := topS 28
abbrev N_many_to : List Str := ["form", "length"]
theorem sc_many_to : FnScope N_many_to ["form", "length"] (defScope s_many_to) := ⟨rfl, rfl, rfl, by decide +kernel, rfl, by decide +kernel, by decide +kernel⟩
abbrev s_how_many : Stmt := topS 29
abbrev N_how_many : List Str := ["form"]
theorem sc_how_many : FnScope N_how_many ["form"] (defScope s_how_many) := ⟨rfl, rfl, rfl, by decide +kernel, rfl, by decide +kernel, by decide +kernel⟩
abbrev s_has_number : Stmt := topS 30
abbrev N_has_number : List Str := ["form", "number", "total"]
theorem sc_has_number : FnScope N_has_number ["form", "number"] (defScope s_has_number) := ⟨rfl, rfl, rfl, by decide +kernel, rfl, by decide +kernel, by decide +kernel⟩
abbrev s_word_at : Stmt := topS 31
abbrev N_word_at : List Str := ["form", "number"]
theorem sc_word_at : FnScope N_word_at ["form", "number"] (defScope s_word_at) := ⟨rfl, rfl, rfl, by decide +kernel, rfl, by decide +kernel, by decide +kernel⟩
abbrev s_told_word : Stmt := topS 32
abbrev N_told_word : List Str := ["layers", "number", "place"]
theorem sc_told_word : FnScope N_told_word ["layers", "number"] (defScope s_told_word) := ⟨rfl, rfl, rfl, by decide +kernel, rfl, by decide +kernel, by decide +kernel⟩
abbrev s_step : Stmt := topS 33
abbrev N_step : List Str := ["form", "word", "by"]
theorem sc_step : FnScope N_step ["form", "word", "by"] (defScope s_step) := ⟨rfl, rfl, rfl, by decide +kernel, rfl, by decide +kernel, by decide +kernel⟩
abbrev s_wrong_part : Stmt := topS 35
abbrev N_wrong_part : List Str := ["size", "moves", "ends", "is_single"]
theorem sc_wrong_part : FnScope N_wrong_part ["size", "moves", "ends", "is_single"] (defScope s_wrong_part) := ⟨rfl, rfl, rfl, by decide +kernel, rfl, by decide +kernel, by decide +kernel⟩
abbrev s_is_move : Stmt := topS 36
abbrev N_is_move : List Str := ["thing", "size"]
theorem sc_is_move : FnScope N_is_move ["thing", "size"] (defScope s_is_move) := ⟨rfl, rfl, rfl, by decide +kernel, rfl, by decide +kernel, by decide +kernel⟩
abbrev s_are_moves : Stmt := topS 37
abbrev N_are_moves : List Str := ["thing", "size", "move"]
theorem sc_are_moves : FnScope N_are_moves ["thing", "size"] (defScope s_are_moves) := ⟨rfl, rfl, rfl, by decide +kernel, rfl, by decide +kernel, by decide +kernel⟩
abbrev s_are_single : Stmt := topS 38
abbrev N_are_single : List Str := ["moves", "one", "other"]
theorem sc_are_single : FnScope N_are_single ["moves"] (defScope s_are_single) := ⟨rfl, rfl, rfl, by decide +kernel, rfl, by decide +kernel, by decide +kernel⟩
abbrev s_are_ends : Stmt := topS 39
abbrev N_are_ends : List Str := ["thing", "size", "end"]
theorem sc_are_ends : FnScope N_are_ends ["thing", "size"] (defScope s_are_ends) := ⟨rfl, rfl, rfl, by decide +kernel, rfl, by decide +kernel, by decide +kernel⟩
abbrev s_reached : Stmt := topS 41
abbrev N_reached : List Str := ["starts", "table", "met", "waiting", "state", "goal"]
theorem sc_reached : FnScope N_reached ["starts", "table"] (defScope s_reached) := ⟨rfl, rfl, rfl, by decide +kernel, rfl, by decide +kernel, by decide +kernel⟩
abbrev s_met_states : Stmt := topS 42
abbrev N_met_states : List Str := ["moves", "onward", "state", "_", "goal"]
theorem sc_met_states : FnScope N_met_states ["moves"] (defScope s_met_states) := ⟨rfl, rfl, rfl, by decide +kernel, rfl, by decide +kernel, by decide +kernel⟩
abbrev s_live_states : Stmt := topS 43
abbrev N_live_states : List Str := ["moves", "ends", "backward", "state", "_", "goal"]
theorem sc_live_states : FnScope N_live_states ["moves", "ends"] (defScope s_live_states) := ⟨rfl, rfl, rfl, by decide +kernel, rfl, by decide +kernel, by decide +kernel⟩
abbrev s_useful_states : Stmt := topS 44
abbrev N_useful_states : List Str := ["moves", "ends", "live", "state"]
theorem sc_useful_states : FnScope N_useful_states ["moves", "ends"] (defScope s_useful_states) := ⟨rfl, rfl, rfl, by decide +kernel, rfl, by decide +kernel, by decide +kernel⟩
abbrev s_figures_of : Stmt := topS 47
abbrev N_figures_of : List Str := ["number", "parts", "low"]
theorem sc_figures_of : FnScope N_figures_of ["number"] (defScope s_figures_of) := ⟨rfl, rfl, rfl, by decide +kernel, rfl, by decide +kernel, by decide +kernel⟩
abbrev s_integer_of : Stmt := topS 48
abbrev N_integer_of : List Str := ["text", "ahead", "number", "at"]
theorem sc_integer_of : FnScope N_integer_of ["text"] (defScope s_integer_of) := ⟨rfl, rfl, rfl, by decide +kernel, rfl, by decide +kernel, by decide +kernel⟩
abbrev s_text_of : Stmt := topS 50
abbrev N_text_of : List Str := ["head", "size", "moves", "ends", "lines", "state", "letter", "goal", "end"]
theorem sc_text_of : FnScope N_text_of ["head", "size", "moves", "ends"] (defScope s_text_of) := ⟨rfl, rfl, rfl, by decide +kernel, rfl, by decide +kernel, by decide +kernel⟩
abbrev s_read_parts : Stmt := topS 51
abbrev N_read_parts : List Str := ["head", "text", "is_single", "lines", "size", "moves", "number", "line", "ends", "move"]
theorem sc_read_parts : FnScope N_read_parts ["head", "text", "is_single"] (defScope s_read_parts) := ⟨rfl, rfl, rfl, by decide +kernel, rfl, by decide +kernel, by decide +kernel⟩
abbrev s_read_size : Stmt := topS 52
abbrev N_read_size : List Str := ["head", "line", "words", "size"]
theorem sc_read_size : FnScope N_read_size ["head", "line"] (defScope s_read_size) := ⟨rfl, rfl, rfl, by decide +kernel, rfl, by decide +kernel, by decide +kernel⟩
abbrev s_read_ends : Stmt := topS 53
abbrev N_read_ends : List Str := ["line", "size", "words", "ends", "word"]
theorem sc_read_ends : FnScope N_read_ends ["line", "size"] (defScope s_read_ends) := ⟨rfl, rfl, rfl, by decide +kernel, rfl, by decide +kernel, by decide +kernel⟩
abbrev s_read_move : Stmt := topS 54
abbrev N_read_move : List Str := ["line", "size", "words", "move"]
theorem sc_read_move : FnScope N_read_move ["line", "size"] (defScope s_read_move) := ⟨rfl, rfl, rfl, by decide +kernel, rfl, by decide +kernel, by decide +kernel⟩
abbrev s_can_follow : Stmt := topS 55
abbrev N_can_follow : List Str := ["moves", "move", "is_single", "last"]
theorem sc_can_follow : FnScope N_can_follow ["moves", "move", "is_single"] (defScope s_can_follow) := ⟨rfl, rfl, rfl, by decide +kernel, rfl, by decide +kernel, by decide +kernel⟩
abbrev s_goal_table : Stmt := topS 58
abbrev N_goal_table : List Str := ["moves", "table", "state", "letter", "goal", "key", "goals"]
theorem sc_goal_table : FnScope N_goal_table ["moves"] (defScope s_goal_table) := ⟨rfl, rfl, rfl, by decide +kernel, rfl, by decide +kernel, by decide +kernel⟩
abbrev s__law_deck : Stmt := topS 62
abbrev N__law_deck : List Str := ["_law_script", "_law_cells", "_law_mixed", "_law_cell"]
theorem sc__law_deck : FnScope N__law_deck ["_law_script"] (defScope s__law_deck) := ⟨rfl, rfl, rfl, by decide +kernel, rfl, by decide +kernel, by decide +kernel⟩
abbrev s__law_draw : Stmt := topS 63
abbrev N__law_draw : List Str := ["_law_deck_here", "_law_many", "_law_turn", "_law_cell", "_law_number"]
theorem sc__law_draw : FnScope N__law_draw ["_law_deck_here", "_law_many"] (defScope s__law_draw) := ⟨rfl, rfl, rfl, by decide +kernel, rfl, by decide +kernel, by decide +kernel⟩
abbrev s__law_pick : Stmt := topS 64
abbrev N__law_pick : List Str := ["_law_deck_here", "_law_some"]
theorem sc__law_pick : FnScope N__law_pick ["_law_deck_here", "_law_some"] (defScope s__law_pick) := ⟨rfl, rfl, rfl, by decide +kernel, rfl, by decide +kernel, by decide +kernel⟩
abbrev s__law_far : Stmt := topS 65
abbrev N__law_far : List Str := ["_law_deck_here", "_law_many", "_law_found", "_law_turn"]
theorem sc__law_far : FnScope N__law_far ["_law_deck_here", "_law_many"] (defScope s__law_far) := ⟨rfl, rfl, rfl, by decide +kernel, rfl, by decide +kernel, by decide +kernel⟩
abbrev s__law_form : Stmt := topS 66
abbrev N__law_form : List Str := ["_law_deck_here", "_law_letters", "_law_size", "_law_moves", "_law_state", "_law_letter", "_law_ends"]
theorem sc__law_form : FnScope N__law_form ["_law_deck_here"] (defScope s__law_form) := ⟨rfl, rfl, rfl, by decide +kernel, rfl, by decide +kernel, by decide +kernel⟩
abbrev s__law_code : Stmt := topS 67
abbrev N__law_code : List Str := ["_law_w"]
theorem sc__law_code : FnScope N__law_code ["_law_w"] (defScope s__law_code) := ⟨rfl, rfl, rfl, by decide +kernel, rfl, by decide +kernel, by decide +kernel⟩
abbrev s__law_table : Stmt := topS 68
abbrev N__law_table : List Str := ["_law_w", "_law_many", "_law_rows", "_law_length", "_law_fresh", "_law_state", "_law_letter", "_law_to"]
theorem sc__law_table : FnScope N__law_table ["_law_w", "_law_many"] (defScope s__law_table) := ⟨rfl, rfl, rfl, by decide +kernel, rfl, by decide +kernel, by decide +kernel⟩
abbrev s__law_led : Stmt := topS 69
abbrev N__law_led : List Str := ["_law_w", "_law_word", "_law_state", "_law_steps", "_law_letter", "_law_here", "_law_to"]
theorem sc__law_led : FnScope N__law_led ["_law_w", "_law_word"] (defScope s__law_led) := ⟨rfl, rfl, rfl, by decide +kernel, rfl, by decide +kernel, by decide +kernel⟩
abbrev s__law_is_endless : Stmt := topS 70
abbrev N__law_is_endless : List Str := ["_law_w", "_law_row"]
theorem sc__law_is_endless : FnScope N__law_is_endless ["_law_w"] (defScope s__law_is_endless) := ⟨rfl, rfl, rfl, by decide +kernel, rfl, by decide +kernel, by decide +kernel⟩
abbrev s__law_at : Stmt := topS 71
abbrev N__law_at : List Str := ["_law_w", "_law_number", "_law_rows", "_law_length", "_law_row", "_law_word", "_law_state", "_law_at_here", "_law_here", "_law_letter", "_law_to", "_law_ways", "_law_move"]
theorem sc__law_at : FnScope N__law_at ["_law_w", "_law_number", "_law_rows"] (defScope s__law_at) := ⟨rfl, rfl, rfl, by decide +kernel, rfl, by decide +kernel, by decide +kernel⟩
abbrev s__law_heard : Stmt := topS 72
abbrev N__law_heard : List Str := ["_law_code_here", "_law_word", "_law_by", "_law_found", "e"]
theorem sc__law_heard : FnScope N__law_heard ["_law_code_here", "_law_word", "_law_by"] (defScope s__law_heard) := ⟨rfl, rfl, rfl, by decide +kernel, rfl, by decide +kernel, by decide +kernel⟩
abbrev s__law_due : Stmt := topS 73
abbrev N__law_due : List Str := ["_law_w", "_law_number", "_law_rows", "_law_found"]
theorem sc__law_due : FnScope N__law_due ["_law_w", "_law_number", "_law_rows"] (defScope s__law_due) := ⟨rfl, rfl, rfl, by decide +kernel, rfl, by decide +kernel, by decide +kernel⟩
abbrev s__law_right : Stmt := topS 74
abbrev N__law_right : List Str := ["_law_deck_here", "_law_w", "_law_code_here", "_law_rows", "_law_total", "_law_near", "_law_text", "_law_at_here", "_law_word", "_law_far_here", "_law_by", "_law_there", "_law_row", "_law_k"]
theorem sc__law_right : FnScope N__law_right ["_law_deck_here", "_law_w"] (defScope s__law_right) := ⟨rfl, rfl, rfl, by decide +kernel, rfl, by decide +kernel, by decide +kernel⟩
abbrev s_law : Stmt := topS 75
abbrev N_law : List Str := ["_law_script", "_law_deck_here"]
theorem sc_law : FnScope N_law ["_law_script"] (defScope s_law) := ⟨rfl, rfl, rfl, by decide +kernel, rfl, by decide +kernel, by decide +kernel⟩
abbrev s_BadFormat___init__ : Stmt := inClass (topS 2) 0
abbrev N_BadFormat___init__ : List Str := ["self", "part"]
theorem sc_BadFormat___init__ : FnScope N_BadFormat___init__ ["self", "part"] (defScope s_BadFormat___init__) := ⟨rfl, rfl, rfl, by decide +kernel, rfl, by decide +kernel, by decide +kernel⟩
abbrev s_BadSheet___init__ : Stmt := inClass (topS 3) 0
abbrev N_BadSheet___init__ : List Str := ["self", "part"]
theorem sc_BadSheet___init__ : FnScope N_BadSheet___init__ ["self", "part"] (defScope s_BadSheet___init__) := ⟨rfl, rfl, rfl, by decide +kernel, rfl, by decide +kernel, by decide +kernel⟩
abbrev s_BadText___init__ : Stmt := inClass (topS 4) 0
abbrev N_BadText___init__ : List Str := ["self", "place"]
theorem sc_BadText___init__ : FnScope N_BadText___init__ ["self", "place"] (defScope s_BadText___init__) := ⟨rfl, rfl, rfl, by decide +kernel, rfl, by decide +kernel, by decide +kernel⟩
abbrev s_NotIn___init__ : Stmt := inClass (topS 5) 0
abbrev N_NotIn___init__ : List Str := ["self", "word"]
theorem sc_NotIn___init__ : FnScope N_NotIn___init__ ["self", "word"] (defScope s_NotIn___init__) := ⟨rfl, rfl, rfl, by decide +kernel, rfl, by decide +kernel, by decide +kernel⟩
abbrev s_TooLong___init__ : Stmt := inClass (topS 6) 0
abbrev N_TooLong___init__ : List Str := ["self", "most"]
theorem sc_TooLong___init__ : FnScope N_TooLong___init__ ["self", "most"] (defScope s_TooLong___init__) := ⟨rfl, rfl, rfl, by decide +kernel, rfl, by decide +kernel, by decide +kernel⟩
abbrev s_Layers___init__ : Stmt := inClass (topS 17) 0
abbrev N_Layers___init__ : List Str := ["self", "form", "state", "letter", "goal", "_"]
theorem sc_Layers___init__ : FnScope N_Layers___init__ ["self", "form"] (defScope s_Layers___init__) := ⟨rfl, rfl, rfl, by decide +kernel, rfl, by decide +kernel, by decide +kernel⟩
abbrev s_Layers_at : Stmt := inClass (topS 17) 1
abbrev N_Layers_at : List Str := ["self", "length"]
theorem sc_Layers_at : FnScope N_Layers_at ["self", "length"] (defScope s_Layers_at) := ⟨rfl, rfl, rfl, by decide +kernel, rfl, by decide +kernel, by decide +kernel⟩
abbrev s_Layers_count_of : Stmt := inClass (topS 17) 2
abbrev N_Layers_count_of : List Str := ["self", "length"]
theorem sc_Layers_count_of : FnScope N_Layers_count_of ["self", "length"] (defScope s_Layers_count_of) := ⟨rfl, rfl, rfl, by decide +kernel, rfl, by decide +kernel, by decide +kernel⟩
abbrev s_Layers_shorter : Stmt := inClass (topS 17) 3
abbrev N_Layers_shorter : List Str := ["self", "length", "less"]
theorem sc_Layers_shorter : FnScope N_Layers_shorter ["self", "length"] (defScope s_Layers_shorter) := ⟨rfl, rfl, rfl, by decide +kernel, rfl, by decide +kernel, by decide +kernel⟩
abbrev s_Layers_weights : Stmt := inClass (topS 17) 4
abbrev N_Layers_weights : List Str := ["self", "state", "length", "behind", "_", "goal"]
theorem sc_Layers_weights : FnScope N_Layers_weights ["self", "state", "length"] (defScope s_Layers_weights) := ⟨rfl, rfl, rfl, by decide +kernel, rfl, by decide +kernel, by decide +kernel⟩
abbrev s_Layers_lesser : Stmt := inClass (topS 17) 5
abbrev N_Layers_lesser : List Str := ["self", "text", "ahead", "state", "at", "letter", "moves", "weights", "index", "move"]
theorem sc_Layers_lesser : FnScope N_Layers_lesser ["self", "text"] (defScope s_Layers_lesser) := ⟨rfl, rfl, rfl, by decide +kernel, rfl, by decide +kernel, by decide +kernel⟩
abbrev s_Layers_word_of : Stmt := inClass (topS 17) 6
abbrev N_Layers_word_of : List Str := ["self", "length", "index", "letters", "state", "left", "moves", "weights", "at"]
theorem sc_Layers_word_of : FnScope N_Layers_word_of ["self", "length", "index"] (defScope s_Layers_word_of) := ⟨rfl, rfl, rfl, by decide +kernel, rfl, by decide +kernel, by decide +kernel⟩
abbrev s_Layers_place_of : Stmt := inClass (topS 17) 7
abbrev N_Layers_place_of : List Str := ["self", "number", "most", "length"]
theorem sc_Layers_place_of : FnScope N_Layers_place_of ["self", "number", "most"] (defScope s_Layers_place_of) := ⟨rfl, rfl, rfl, by decide +kernel, rfl, by decide +kernel, by decide +kernel⟩
abbrev s_Sheet___init__ : Stmt := inClass (topS 57) 0
abbrev N_Sheet___init__ : List Str := ["self", "size", "moves", "ends", "wrong", "_", "letter", "end"]
theorem sc_Sheet___init__ : FnScope N_Sheet___init__ ["self", "size", "moves", "ends"] (defScope s_Sheet___init__) := ⟨rfl, rfl, rfl, by decide +kernel, rfl, by decide +kernel, by decide +kernel⟩
abbrev s_Sheet_goals : Stmt := inClass (topS 57) 1
abbrev N_Sheet_goals : List Str := ["self", "state", "letter"]
theorem sc_Sheet_goals : FnScope N_Sheet_goals ["self", "state", "letter"] (defScope s_Sheet_goals) := ⟨rfl, rfl, rfl, by decide +kernel, rfl, by decide +kernel, by decide +kernel⟩
abbrev s_Sheet_is_end : Stmt := inClass (topS 57) 2
abbrev N_Sheet_is_end : List Str := ["self", "state"]
theorem sc_Sheet_is_end : FnScope N_Sheet_is_end ["self", "state"] (defScope s_Sheet_is_end) := ⟨rfl, rfl, rfl, by decide +kernel, rfl, by decide +kernel, by decide +kernel⟩
abbrev s_Sheet___eq__ : Stmt := inClass (topS 57) 3
abbrev N_Sheet___eq__ : List Str := ["self", "other"]
theorem sc_Sheet___eq__ : FnScope N_Sheet___eq__ ["self", "other"] (defScope s_Sheet___eq__) := ⟨rfl, rfl, rfl, by decide +kernel, rfl, by decide +kernel, by decide +kernel⟩
abbrev s_Sheet___str__ : Stmt := inClass (topS 57) 4
abbrev N_Sheet___str__ : List Str := ["self"]
theorem sc_Sheet___str__ : FnScope N_Sheet___str__ ["self"] (defScope s_Sheet___str__) := ⟨rfl, rfl, rfl, by decide +kernel, rfl, by decide +kernel, by decide +kernel⟩
abbrev s_Sheet_read : Stmt := inClass (topS 57) 5
abbrev N_Sheet_read : List Str := ["cls", "text", "size", "moves", "ends"]
theorem sc_Sheet_read : FnScope N_Sheet_read ["cls", "text"] (defScope s_Sheet_read) := ⟨rfl, rfl, rfl, by decide +kernel, rfl, by decide +kernel, by decide +kernel⟩
abbrev s_Format___init__ : Stmt := inClass (topS 60) 0
abbrev N_Format___init__ : List Str := ["self", "size", "moves", "ends", "wrong", "state", "letter", "goal", "end"]
theorem sc_Format___init__ : FnScope N_Format___init__ ["self", "size", "moves", "ends"] (defScope s_Format___init__) := ⟨rfl, rfl, rfl, by decide +kernel, rfl, by decide +kernel, by decide +kernel⟩
abbrev s_Format_step : Stmt := inClass (topS 60) 1
abbrev N_Format_step : List Str := ["self", "state", "letter"]
theorem sc_Format_step : FnScope N_Format_step ["self", "state", "letter"] (defScope s_Format_step) := ⟨rfl, rfl, rfl, by decide +kernel, rfl, by decide +kernel, by decide +kernel⟩
abbrev s_Format_led : Stmt := inClass (topS 60) 2
abbrev N_Format_led : List Str := ["self", "word", "state", "letter"]
theorem sc_Format_led : FnScope N_Format_led ["self", "word", "state"] (defScope s_Format_led) := ⟨rfl, rfl, rfl, by decide +kernel, rfl, by decide +kernel, by decide +kernel⟩
abbrev s_Format_is_end : Stmt := inClass (topS 60) 3
abbrev N_Format_is_end : List Str := ["self", "state"]
theorem sc_Format_is_end : FnScope N_Format_is_end ["self", "state"] (defScope s_Format_is_end) := ⟨rfl, rfl, rfl, by decide +kernel, rfl, by decide +kernel, by decide +kernel⟩
abbrev s_Format_has : Stmt := inClass (topS 60) 4
abbrev N_Format_has : List Str := ["self", "thing"]
theorem sc_Format_has : FnScope N_Format_has ["self", "thing"] (defScope s_Format_has) := ⟨rfl, rfl, rfl, by decide +kernel, rfl, by decide +kernel, by decide +kernel⟩
abbrev s_Format___eq__ : Stmt := inClass (topS 60) 5
abbrev N_Format___eq__ : List Str := ["self", "other"]
theorem sc_Format___eq__ : FnScope N_Format___eq__ ["self", "other"] (defScope s_Format___eq__) := ⟨rfl, rfl, rfl, by decide +kernel, rfl, by decide +kernel, by decide +kernel⟩
abbrev s_Format___str__ : Stmt := inClass (topS 60) 6
abbrev N_Format___str__ : List Str := ["self"]
theorem sc_Format___str__ : FnScope N_Format___str__ ["self"] (defScope s_Format___str__) := ⟨rfl, rfl, rfl, by decide +kernel, rfl, by decide +kernel, by decide +kernel⟩
abbrev s_Format_read : Stmt := inClass (topS 60) 7
abbrev N_Format_read : List Str := ["cls", "text", "size", "moves", "ends"]
theorem sc_Format_read : FnScope N_Format_read ["cls", "text"] (defScope s_Format_read) := ⟨rfl, rfl, rfl, by decide +kernel, rfl, by decide +kernel, by decide +kernel⟩
structure Txt (mg : Str → Option Value) : Prop where
  abs : mg "abs" = none
  all : mg "all" = none
  bool : mg "bool" = none
  dict : mg "dict" = none
  enumerate : mg "enumerate" = none
  int : mg "int" = none
  isinstance : mg "isinstance" = none
  len : mg "len" = none
  list : mg "list" = none
  min : mg "min" = none
  range : mg "range" = none
  repr : mg "repr" = none
  set : mg "set" = none
  sorted : mg "sorted" = none
  str : mg "str" = none
  sum : mg "sum" = none
  tuple : mg "tuple" = none
  zip : mg "zip" = none
  MOST : ∃ t, mg "MOST" = some (.int 200 t)
section
variable {P : Program} {w : World} {K : PySem.W.Frag} {mg : Str → Option Value} {base : Heap}

def spDraw : Sp := fun vs H Q _ => ∃ (d l : Addr) (c : Nat) (k : Int), vs = [.ref d, .int k] ∧ Dek H d l c ∧ c < 1000000 ∧ 0 < k ∧ k < 1073741824 ∧
  ∀ (r : Int) (H2 : Hp), 0 ≤ r → r < k → Dek H2 d l (c + 1) → Kept d l H H2 → Q (.int r) H2
theorem ok_draw {f : Addr} {fd : FuncData} (F : Fun K "_law_draw" "_law_draw" s__law_draw f fd) (T : Txt mg) : GFn P w K mg base CX0 1 f fd ["_law_deck_here", "_law_many"] spDraw := by
  refine gfun_ok F sc__law_draw (fun vs H Q E h => ?_) (fun cdv A outer s H vs Q E hgu hr h => ?_)
  · obtain ⟨d, l, c, k, rfl, _⟩ := h
    rfl
  · obtain ⟨d, l, c, k, rfl, D, hc, k0, k1', q⟩ := h
    have nd := sc__law_draw.nd
    refine ⟨_, (pss_cons (ps_par (i := 2) (j := 3) rfl nd rfl rfl (by decide) rfl rfl (pa_cons (pe_op op_add (pe_dget (hu_of hr) (pv 0) pe_str (fun _ _ => rfl)) pe_int) (pa_cons (pe_dget (hu_of hr) (pv 0) pe_str (fun _ _ => rfl)) pa_nil)) (by rfl))
      (pss_cons (ps_dput (hu_of hr) (pv 0) pe_str (pv 2) rfl)
      (C8.pss_cut (ps_if (pt_cmpR (k_neD (K := K) hr.units) (pe_dget (hu_of hr) (pv 0) pe_str (fun _ _ => rfl)) (pe_lst pa_nil) (nomark _)) (pss_cons (ps_set (i := 3) nd rfl (Or.inl rfl) (pe_bm0 PySem.F.plainAttrs_list PySem.F.slot_list_pop PySem.F.type_list_pop mt_pop (pe_dget (hu_of hr) (pv 0) pe_str (fun _ _ => rfl))))
      (pss_cons (ps_if (pt_cmpR op_ge (pv 3) (pe_op op_pow pe_int pe_int) (nomark _)) (pss_cons (ps_expr (pe_bm PySem.F.plainAttrs_list PySem.F.slot_list_append PySem.F.type_list_append mt_append (pe_dget (hu_of hr) (pv 0) pe_str (fun _ _ => rfl)) (pa_cons (pe_op op_fdiv (pv 3) (pv 1)) pa_nil)))
      (pss_one (ps_ret (pe_op op_mod (pe_callTy call_int1 (by rfl) T.int (by decide +kernel) (pa_cons (pv 3) pa_nil)) (pv 1))))) pss_nil)
      (pss_one (ps_set (i := 3) nd rfl (Or.inl rfl) (pe_op op_add (pv 3) (pe_dget (hu_of hr) (pv 0) pe_str (fun _ _ => rfl))))))) pss_nil)
      (pss_cons (ps_set (i := 4) nd rfl (Or.inl rfl) (pe_op op_add (pe_op op_mod (pe_op op_mul (pe_op op_mod (pe_callTy call_int1 (by rfl) T.int (by decide +kernel) (pa_cons (pv 3) pa_nil)) pe_int) pe_int) pe_int) (pe_op op_mul (pe_op op_mul pe_int (pv 2)) (pv 2))))
      (pss_cons (ps_set (i := 4) nd rfl (Or.inl rfl) (pe_op op_mod (pe_callTy call_int1 (by rfl) T.int (by decide +kernel) (pa_cons (pe_op op_add (pe_op op_add (pe_op op_mul (pv 4) (pv 4)) (pe_op op_mul pe_int (pv 2))) pe_int) pa_nil)) pe_int))
      (pss_one (ps_ret (pe_op op_mod (pe_op op_fdiv (pe_op op_mod (pe_op op_mul (pv 4) pe_int) pe_int) pe_int) (pv 1))))))))), ?_⟩
    obtain ⟨cs, m, n, hd, hl, hm, hn, hcs⟩ := D
    have dl : d ≠ l := ne_of hd hl nofun
    clean_wf
    refine ⟨d, _, rfl, gDraws hd, ?_⟩
    clean_wf
    refine ⟨d, _, rfl, gMixed hd, ?_⟩
    clean_wf
    refine ⟨d, _, rfl, pDraws (n + 1) hd, ?_⟩
    have hd1 : upd H d (.dK (dekO l m (n + 1))) d = some (.dK (dekO l m (n + 1))) := upd_same
    have hl1 : upd H d (.dK (dekO l m (n + 1))) l = some (.lst (cs.map V.int)) := by rw [upd_ne dl.symm]; exact hl
    have k1 : Kept d l H (upd H d (.dK (dekO l m (n + 1)))) := fun b o e h1 _ => by rw [upd_ne h1]; exact e
    generalize upd H d (.dK (dekO l m (n + 1))) = H1 at hd1 hl1 k1 ⊢
    -- the cell that is left, if there is one; behind it what stands
    refine ⟨fun σ' H' => ∃ (x : Int) (y4 : Option V), σ' = [some (.ref d), some (.int k), some (.int (n + 1)), some (.int x), y4] ∧ Kept d l H H' ∧ H' d = some (.dK (dekO l m (n + 1))) ∧ ∃ cs2 : List Int, H' l = some (.lst (cs2.map V.int)) ∧ cs2.length ≤ 63, ?_, ?_⟩
    · clean_wf
      refine ⟨d, _, rfl, gGreat hd1, ?_⟩
      refine ⟨Nat.zero_le _, fun p np => ?_⟩
      have hd2 : upd H1 p (.lst []) d = some (.dK (dekO l m (n + 1))) := by rw [upd_ne (ne_of_none hd1 np)]; exact hd1
      have hl2 : upd H1 p (.lst []) l = some (.lst (cs.map V.int)) := by rw [upd_ne (ne_of_none hl1 np)]; exact hl1
      have k2 : Kept d l H (upd H1 p (.lst [])) := k1.trans (.of (same_new np))
      refine ⟨.list (dI cs), .list [], .lst (SqL.of hl2) (dpInts cs), .lst (SqL.of upd_same) .nil, shI cs, rfl, ?_⟩
      generalize upd H1 p (.lst []) = H2 at hd2 hl2 k2 ⊢
      refine ⟨!cs.isEmpty, by rw [eqvI_nil], ?_⟩
      rcases List.eq_nil_or_concat cs with rfl | ⟨c0, z, rfl⟩
      · exact iteF ⟨m, none, rfl, k2, hd2, [], hl2, by simp⟩
      · rw [List.concat_eq_append] at hl2 hcs ⊢
        refine ifT (by simp) ?_
        have hl3 : upd H2 l (.lst (c0.map V.int)) l = some (.lst (c0.map V.int)) := upd_same
        have hd3 : upd H2 l (.lst (c0.map V.int)) d = some (.dK (dekO l m (n + 1))) := by rw [upd_ne dl]; exact hd2
        have k3 : Kept d l H (upd H2 l (.lst (c0.map V.int))) := k2.trans fun b o e _ h2 => by rw [upd_ne h2]; exact e
        have el : ((c0 ++ [z]).map V.int).dropLast = c0.map V.int := by simp
        have ey : ((c0 ++ [z]).map V.int)[((c0 ++ [z]).map V.int).length - 1]? = some (.int z) := by simp
        clean_wf
        refine ⟨d, _, rfl, gGreat hd2, .inl ⟨rfl, _, SqL.of hl2⟩, l, _, _, rfl, rfl, hl2, ey, ?_⟩
        rw [el]
        generalize upd H2 l (.lst (c0.map V.int)) = H3 at hd3 hl3 k3 ⊢
        refine ⟨_, rfl, _, _, rfl, rfl, ⟨by decide, by decide, by decide⟩, _, _, rfl, rfl, _, rfl, ite2 (fun _ => ?_) (fun _ => ?_)⟩
        · clean_wf
          refine ⟨d, _, rfl, gGreat hd3, .inl ⟨rfl, _, SqL.of hl3⟩, _, rfl, _, rfl, _, _, rfl, rfl, ⟨k0, k1'⟩, l, _, _, rfl, rfl, hl3, ?_, ?_⟩
          · rw [List.length_map]
            exact Nat.lt_of_lt_of_le (Nat.lt_succ_of_le (by simp at hcs; omega : c0.length ≤ 62)) (by decide)
          · have k4 : Kept d l H (upd H3 l (.lst (c0.map V.int ++ [.int (z / k)]))) := k3.trans fun b o e _ h2 => by rw [upd_ne h2]; exact e
            refine ⟨_, rfl, .inl ⟨_, rfl, _, rfl, _, _, rfl, rfl, k0, ?_⟩⟩
            refine q _ _ (mod_lo k0) (mod_hi k0) ⟨c0 ++ [z / k], m, n + 1, by rw [upd_ne dl]; exact hd3, by rw [upd_same, List.map_append]; rfl, hm, ⟨by omega, by omega⟩, ?_⟩ k4
            simp at hcs ⊢
            omega
        · clean_wf
          refine ⟨d, _, rfl, gMixed hd3, ?_⟩
          clean_wf
          exact ⟨k3, hd3, c0, hl3, by simp at hcs; omega⟩
    · rintro σ' H3 ⟨x, y4, rfl, k3, h3, cs2, h4, h5⟩
      have t1 : 0 < n + 1 := by omega
      have t2 : n + 1 ≤ 1000000 := by omega
      have t3 : n + 1 ≤ ((c + 1 : Nat) : Int) := by omega
      generalize n + 1 = t at t1 t2 t3 h3 ⊢
      refine ⟨_, rfl, .inl ⟨_, rfl, _, _, rfl, rfl, (by show (0 : Int) < _; decide), ?_⟩⟩
      have w0 := mod_lo (a := x) (b := 2147483579) (by decide)
      have w1 := mod_hi (a := x) (b := 2147483579) (by decide)
      dsimp only
      generalize x % 2147483579 = g at w0 w1 ⊢
      refine ⟨_, _, rfl, rfl, .inl (by omega), _, _, rfl, rfl, (by show (0 : Int) < _; decide), ?_⟩
      have x0 := mod_lo (a := g * 62089911) (b := 2147483647) (by decide)
      have x1 := mod_hi (a := g * 62089911) (b := 2147483647) (by decide)
      dsimp only
      generalize g * 62089911 % 2147483647 = e at x0 x1 ⊢
      refine ⟨_, rfl, _, _, rfl, rfl, .inl (by omega), _, rfl, _, _, rfl, rfl, .inl (by omega), _, _, rfl, rfl, ?_⟩
      have v0 : 0 ≤ e + 60427 * t * t := by have := Int.mul_nonneg (Int.mul_nonneg (show (0 : Int) ≤ 60427 by decide) (Int.le_of_lt t1)) (Int.le_of_lt t1); omega
      have v1 : e + 60427 * t * t < 2 ^ 63 := by
        have h1 := Int.mul_le_mul t2 t2 (by omega) (by omega : (0 : Int) ≤ 1000000)
        have h2 : 60427 * t * t = 60427 * (t * t) := by rw [Int.mul_assoc]
        omega
      dsimp only
      generalize e + 60427 * t * t = g2 at v0 v1 ⊢
      refine ⟨_, rfl, _, rfl, _, _, rfl, rfl, .inl (by omega), _, rfl, _, _, rfl, rfl, .inl (by omega), _, _, rfl, rfl, _, _, rfl, rfl, .inl ⟨_, rfl, _, _, rfl, rfl, (by show (0 : Int) < _; decide), ?_⟩⟩
      have y0 := mod_lo (a := g2 * g2 + 39373 * t + 22) (b := 2147483549) (by decide)
      have y1 := mod_hi (a := g2 * g2 + 39373 * t + 22) (b := 2147483549) (by decide)
      dsimp only
      generalize (g2 * g2 + 39373 * t + 22) % 2147483549 = j at y0 y1 ⊢
      refine ⟨_, rfl, _, _, rfl, rfl, .inl (by omega), _, _, rfl, rfl, (by show (0 : Int) < _; decide), _, _, rfl, rfl, ⟨by decide, by decide⟩, _, rfl, _, _, rfl, rfl, k0, ?_⟩
      exact q _ _ (mod_lo k0) (mod_hi k0) ⟨cs2, m, t, h3, h4, hm, ⟨by omega, t3⟩, h5⟩ k3
end
end SG

namespace SG
open PySem PySem.Spec PyProof.Rows L2
local macro_rules
  | `(tactic| clean_wf) => `(tactic| repeat (first | refine ⟨_, rfl, ?_⟩ | refine ⟨rfl, ?_⟩ | refine ⟨_, _, rfl, ?_⟩ | refine ⟨_, _, rfl, rfl, ?_⟩ | refine ⟨_, _, _, rfl, ?_⟩ | refine ⟨_, _, _, _, rfl, ?_⟩))
local macro_rules
  | `(tactic| exists $u:ident, $n:ident, $H:ident, $q:ident, $e:ident) => `(tactic| (refine ⟨by first | exact Nat.zero_le _ | assumption | (simp only [List.length_cons, List.length_nil]; decide), fun $u $n => ?_⟩; generalize hh : upd _ $u _ = $H; obtain ⟨$q, $e⟩ := mkq $n hh; clear hh))
local macro_rules
  | `(tactic| simp_wf) => `(tactic| first | assumption | exact upd_same | (refine (by assumption : Same _ _) _ _ ?_; simp_wf) | (refine (by assumption : Kept _ _ _ _) _ _ ?_ (by assumption) (by assumption); simp_wf))
local macro_rules
  | `(tactic| decreasing_trivial) => `(tactic| first | assumption | exact .inl (.inl (by assumption)) | (refine sameT (by assumption) ?_; decreasing_trivial))
local macro_rules
  | `(tactic| array_get_dec) => `(tactic| first | assumption | (refine CdAt.same (by assumption) ?_; array_get_dec))
section
variable {P : Program} {w : World} {K : PySem.W.Frag} {mg : Str → Option Value} {base : Heap}

def spDeck (K : PySem.W.Frag) : Sp := fun vs H Q _ => ∃ (a : Addr) (ns : List Int), vs = [.ref a] ∧ SqL K H a (ns.map V.int) ∧ ns.length ≤ 63 ∧
  ∀ (d l : Addr) (H2 : Hp), Dek H2 d l 0 → Same H H2 → Q (.ref d) H2
theorem ok_deck {f : Addr} {fd : FuncData} (F : Fun K "_law_deck" "_law_deck" s__law_deck f fd) (T : Txt mg) : GFn P w K mg base CX0 1 f fd ["_law_script"] (spDeck K) := by
  refine gfun_ok F sc__law_deck (fun vs H Q E h => ?_) (fun cdv A outer s H vs Q E hgu hr h => ?_)
  · obtain ⟨a, ns, rfl, _⟩ := h
    rfl
  · obtain ⟨a, ns, rfl, hS, hlen, q⟩ := h
    have nd := sc__law_deck.nd
    refine ⟨_, (pss_cons (ps_par (i := 1) (j := 2) rfl nd rfl rfl (by decide) rfl rfl (pa_cons (pe_callTy (k_listOf (K := K)) (by rfl) T.list (by decide +kernel) (pa_cons (pe_slice (k_slL (K := K)) (pv 0) po_none (po_some pe_int)) pa_nil)) (pa_cons pe_int pa_nil)) (by rfl))
      (pss_cons (ps_for PassesOwn.never rfl (pi_list (pv 1)) (pg_name (i := 3) nd rfl (Or.inl rfl))
        (pss_one (ps_set (i := 2) nd rfl (Or.inl rfl) (pe_op op_mod (pe_callTy call_int1 (by rfl) T.int (by decide +kernel) (pa_cons (pe_op op_add (pe_op op_add (pe_op op_mul (pv 2) pe_int) (pe_op op_mod (pe_callTy call_int1 (by rfl) T.int (by decide +kernel) (pa_cons (pv 3) pa_nil)) pe_int)) pe_int) pa_nil)) pe_int))))
      (pss_one (ps_ret (pe_disp (pps_cons pe_str (k_rev (K := K) (pv 1)) (pps_cons pe_str (pv 2) (pps_cons pe_str pe_int pps_nil))) (by rfl) (by rfl) (fun z => by cases z) (by decide)))))), ?_⟩
    -- the script's copy
    refine ⟨.ref a, rfl, 63, rfl, a, _, rfl, hS, fun p np => ?_⟩
    have s1 : Same H (upd H p (.lst (cutV (ns.map V.int) none (some 63)))) := same_new np
    have e1 : cutV (ns.map V.int) none (some 63) = ns.map V.int := by
      unfold cutV
      rw [HT.sIx_none, show HT.sIx (ns.map V.int).length (ns.map V.int).length (some 63) = min 63 (ns.map V.int).length from HT.sIx_nat _ _ 63]
      rw [show min 63 (ns.map V.int).length = (ns.map V.int).length by rw [List.length_map]; omega]
      exact List.take_of_length_le (Nat.le_refl _)
    rw [e1] at s1 ⊢
    refine ⟨p, _, rfl, .inl (SqL.of upd_same), fun l nl => ?_⟩
    have s2 : Same H (upd (upd H p (.lst (ns.map V.int))) l (.lst (ns.map V.int))) := s1.trans (same_new nl)
    have hl : (upd (upd H p (.lst (ns.map V.int))) l (.lst (ns.map V.int))) l = some (.lst (ns.map V.int)) := upd_same
    generalize (upd (upd H p (.lst (ns.map V.int))) l (.lst (ns.map V.int))) = H1 at s2 hl ⊢
    refine ⟨_, _, rfl, ?_⟩
    -- the figure
    refine ⟨_, rfl, l, rfl, ⟨_, SqL.of hl⟩, for_list (K := K) (a := l) (xs := ns.map V.int) (fun i σ H2 => ∃ (m : Int) (y : Option V), σ = [some (.ref a), some (.ref l), some (.int m), y] ∧ (0 ≤ m ∧ m < 2147483648) ∧ H2 = H1)
      ⟨1086522, none, rfl, ⟨by decide, by decide⟩, rfl⟩ (fun i σ H2 _ ⟨_, _, _, _, e⟩ => e ▸ SqL.of hl) ?_ ?_⟩
    · rintro i y σ H2 hi ⟨m, y3, rfl, hm, rfl⟩
      obtain ⟨z, rfl⟩ : ∃ z, y = V.int z := by
        rw [List.getElem?_map] at hi
        obtain ⟨z, _, e⟩ := Option.map_eq_some_iff.mp hi
        exact ⟨z, e.symm⟩
      have u0 := mod_lo (a := z) (b := 2147483579) (by decide)
      have u1 := mod_hi (a := z) (b := 2147483579) (by decide)
      refine ⟨_, rfl, _, _, rfl, rfl, .inl (by omega), _, rfl, .inl ⟨_, rfl, _, _, rfl, rfl, (by show (0 : Int) < _; decide), _, _, rfl, rfl, _, _, rfl, rfl, .inl ⟨_, rfl, _, _, rfl, rfl, (by show (0 : Int) < _; decide), ?_⟩⟩⟩
      exact ⟨_, _, rfl, ⟨mod_lo (by decide), Int.lt_trans (mod_hi (by decide)) (by decide)⟩, rfl⟩
    · rintro σ H2 ⟨m, y3, rfl, hm, rfl⟩
      -- the deck
      refine fun d nd1 => ?_
      have t2 : Same H (upd H2 d (.dK [])) := s2.trans (same_new nd1)
      have hl3 : (upd H2 d (.dK [])) l = some (.lst (ns.map V.int)) := by rw [upd_ne (ne_of_none hl nd1)]; exact hl
      have hd3 : (upd H2 d (.dK [])) d = some (.dK []) := upd_same
      generalize upd H2 d (.dK []) = H3 at t2 hl3 hd3 ⊢
      refine ⟨.ref l, rfl, l, _, rfl, SqL.of hl3, fun r nr => ?_⟩
      have t4 : Same H (upd H3 r (.lst (ns.map V.int).reverse)) := t2.trans (same_new nr)
      have hd4 : (upd H3 r (.lst (ns.map V.int).reverse)) d = some (.dK []) := by rw [upd_ne (ne_of_none hd3 nr)]; exact hd3
      have hr4 : (upd H3 r (.lst (ns.map V.int).reverse)) r = some (.lst (ns.reverse.map V.int)) := by rw [upd_same, List.map_reverse]
      have nd0 : H d = none := s2.free nd1
      have nr0 : r ≠ d := (ne_of_none hd3 nr).symm
      generalize upd H3 r (.lst (ns.map V.int).reverse) = H4 at t4 hd4 hr4 ⊢
      refine ⟨_, rfl, hd4, dekO r m 0, rfl, (by show 3 ≤ 15; decide), ?_⟩
      rw [dek_made]
      refine q d r _ ⟨ns.reverse, m, 0, upd_same, by rw [upd_ne nr0]; exact hr4, hm, ⟨by decide, by decide⟩, by rw [List.length_reverse]; exact hlen⟩ fun b o e => ?_
      rw [upd_ne (ne_of_none e nd0)]
      exact t4 _ _ e

/-- one of a list's, a sign of a text -/
def spPick (K : PySem.W.Frag) : Sp := fun vs H Q _ => ∃ (d l : Addr) (c : Nat), Dek H d l c ∧ c < 1000000 ∧
  ((∃ (a : Addr) (xs : List V), vs = [.ref d, .ref a] ∧ SqL K H a xs ∧ a ≠ l ∧ xs ≠ [] ∧ xs.length ≤ 1000 ∧ ∀ (x : V) (H2 : Hp), x ∈ xs → Dek H2 d l (c + 1) → Kept d l H H2 → Q x H2) ∨
   (∃ z : Str, vs = [.ref d, .str z] ∧ 0 < z.length ∧ z.length ≤ 1000 ∧ ∀ (g : Nat) (H2 : Hp), g ∈ z.cps.toList → Dek H2 d l (c + 1) → Kept d l H H2 → Q (.str ⟨#[g]⟩) H2))
theorem ok_pick {f f1 : Addr} {fd fd1 : FuncData} (F : Fun K "_law_pick" "_law_pick" s__law_pick f fd) (F__law_draw : Fun K "_law_draw" "_law_draw" s__law_draw f1 fd1) (m__law_draw : mg "_law_draw" = some (.ref f1)) (b__law_draw : Binds K fd1 ["_law_deck_here", "_law_many"] []) (T : Txt mg) : GFn P w K mg base CX0 2 f fd ["_law_deck_here", "_law_some"] (spPick K) := by
  have G__law_draw : GFn P w K mg base CX0 1 f1 fd1 ["_law_deck_here", "_law_many"] spDraw := ok_draw F__law_draw T
  refine gfun_ok F sc__law_pick (fun vs H Q E h => ?_) (fun cdv A outer s H vs Q E hgu hr h => ?_)
  · obtain ⟨d, l, c, D, hc, ⟨a, xs, rfl, _⟩ | ⟨z, rfl, _⟩⟩ := h
    · rfl
    · rfl
  · obtain ⟨d, l, c, D, hc, h⟩ := h
    have nd := sc__law_pick.nd
    refine ⟨_, (pss_one (ps_ret (pe_ix (k_ix (K := K)) (pv 1) (pe_g G__law_draw hgu (hr.mono (by decide)) (by rfl) m__law_draw F__law_draw.kp b__law_draw .nil pass0 (pa_cons (pv 0) (pa_cons (pe_callB call_len (by rfl) T.len (by decide +kernel) (pa_cons (pv 1) pa_nil)) pa_nil))) (fun _ _ => rfl)))), ?_⟩
    rcases h with ⟨a, xs, rfl, hS, al, ne, hlen, q⟩ | ⟨z, rfl, z0, z1, q⟩
    · have pos : 0 < xs.length := List.length_pos_iff.mpr ne
      refine ⟨_, rfl, _, rfl, _, rfl, _, _, rfl, .inl ⟨xs, hS, rfl⟩, d, l, c, _, rfl, D, hc, by omega, by omega, fun r H2 r0 r1 D2 k2 => ?_⟩
      have hS2 := k2.lstG D al hS
      obtain ⟨i, rfl⟩ : ∃ i : Nat, r = (i : Int) := ⟨r.toNat, by omega⟩
      have hi : i < xs.length := by omega
      exact .inl ⟨a, xs, i, xs[i], rfl, rfl, hS2, atI_nat (List.getElem?_eq_getElem hi), q _ _ (List.getElem_mem hi) D2 k2⟩
    · have ez : z.cps.toList.length = z.length := by simp [Str.length]
      have sz : z.length ≤ sizeLine := Nat.le_of_lt (small1000 z1)
      refine ⟨_, rfl, _, rfl, _, rfl, _, _, rfl, ⟨sz, rfl⟩, d, l, c, _, rfl, D, hc, by omega, by omega, fun r H2 r0 r1 D2 k2 => ?_⟩
      obtain ⟨i, rfl⟩ : ∃ i : Nat, r = (i : Int) := ⟨r.toNat, by omega⟩
      have hi : i < z.cps.toList.length := by omega
      exact .inr (.inr ⟨z, i, z.cps.toList[i], rfl, rfl, sz, atI_nat (List.getElem?_eq_getElem hi), q _ _ (List.getElem_mem hi) D2 k2⟩)
end
end SG

/-! The small functions that formats rest on, for right parts. -/
namespace SG
open PySem PySem.Spec PyProof.Rows L2
local macro_rules
  | `(tactic| clean_wf) => `(tactic| repeat (first | refine ⟨_, rfl, ?_⟩ | refine ⟨rfl, ?_⟩ | refine ⟨_, _, rfl, ?_⟩ | refine ⟨_, _, rfl, rfl, ?_⟩ | refine ⟨_, _, _, rfl, ?_⟩ | refine ⟨_, _, _, _, rfl, ?_⟩))
local macro_rules
  | `(tactic| exists $u:ident, $n:ident, $H:ident, $q:ident, $e:ident) => `(tactic| (refine ⟨by first | exact Nat.zero_le _ | assumption | (simp only [List.length_cons, List.length_nil]; decide), fun $u $n => ?_⟩; generalize hh : upd _ $u _ = $H; obtain ⟨$q, $e⟩ := mkq $n hh; clear hh))
local macro_rules
  | `(tactic| simp_wf) => `(tactic| first | assumption | exact upd_same | (refine (by assumption : Same _ _) _ _ ?_; simp_wf) | (refine (by assumption : Kept _ _ _ _) _ _ ?_ (by assumption) (by assumption); simp_wf))
local macro_rules
  | `(tactic| decreasing_trivial) => `(tactic| first | assumption | exact .inl (.inl (by assumption)) | (refine sameT (by assumption) ?_; decreasing_trivial))
local macro_rules
  | `(tactic| array_get_dec) => `(tactic| first | assumption | (refine CdAt.same (by assumption) ?_; array_get_dec))
/-- a move: from a state, by a letter, to a state -/
abbrev Mv := Nat × Nat × Nat
def sgn (g : Nat) : Str := ⟨#[g]⟩
def mvD (m : Mv) : PyData := .tuple [.int (m.1 : Int), .str (sgn m.2.1), .int (m.2.2 : Int)]
/-- further on: a later state, or the same by a later letter -/
def Lat (a b : Mv) : Prop := a.1 < b.1 ∨ a.1 = b.1 ∧ a.2.1 < b.2.1
theorem alike_mv (a b : Mv) : PySem.W.alike (mvD a) (mvD b) = true := by simp [mvD, PySem.W.alike, PySem.W.alikeAll]
theorem lt_mv {a b : Mv} (h : Lat a b) : PySem.W.dataLt (mvD a) (mvD b) = true := by
  unfold mvD
  rw [PySem.W.dataLt_tuple, PySem.W.dataLt_cons (by simp [PySem.W.alike])]
  split
  · next e =>
    have e : a.1 = b.1 := by
      simp only [PyData.eqv, beq_iff_eq] at e
      omega
    rcases h with h | ⟨_, h⟩
    · omega
    rw [PySem.W.dataLt_cons (by simp [PySem.W.alike])]
    rw [if_neg (by
      simp only [PyData.eqv, beq_iff_eq]
      intro z
      have z : (#[a.2.1] : Array Nat) = #[b.2.1] := congrArg Str.cps z
      have : a.2.1 = b.2.1 := by simpa using z
      omega)]
    rw [PySem.W.dataLt_str]
    exact decide_eq_true (List.cons_lt_cons_iff.mpr (.inl h))
  · next e =>
    rw [PySem.W.dataLt_int]
    refine decide_eq_true ?_
    rcases h with h | ⟨h, _⟩
    · omega
    · exact absurd (by simp only [PyData.eqv, beq_iff_eq]; omega) e
section
variable {P : Program} {w : World} {K : PySem.W.Frag} {mg : Str → Option Value} {base : Heap}
def spIsInt (K : PySem.W.Frag) : Sp := fun vs H Q _ => ∃ (x : V) (d : PyData), vs = [x] ∧ Dx K H x d ∧ Q (.bl (isInt d)) H
theorem fo_is_integer {f : Addr} {fd : FuncData} (F : Fun K "is_integer" "is_integer" s_is_integer f fd) (T : Txt mg) : FnOk P w K mg base CX0 1 f fd ["thing"] (spIsInt K) := by
  refine F.ok sc_is_integer (fun vs H Q E h => ?_) (fun cdv A outer s H vs Q E hr h => ?_)
  · obtain ⟨x, d, rfl, _⟩ := h
    rfl
  · obtain ⟨x, d, rfl, hd, q⟩ := h
    have nd := sc_is_integer.nd
    refine ⟨_, (pss_one (ps_ret (pe_and (pe_callB (k_isi (K := K)) (by rfl) T.isinstance (by decide +kernel) (pa_cons (pv 0) (pa_cons (pe_bltn (v := .ty "int") (by rfl) T.int (by decide +kernel) rfl) pa_nil))) (pe_one (pe_not (pe_callB (k_isi (K := K)) (by rfl) T.isinstance (by decide +kernel) (pa_cons (pv 0) (pa_cons (pe_bltn (v := .ty "bool") (by rfl) T.bool (by decide +kernel) rfl) pa_nil)))))))), ?_⟩
    refine ⟨_, rfl, _, _, _, _, _, rfl, .ty "int", dx_ty hd, isx_int d, _, rfl, ?_⟩
    by_cases e : isIntLike d = true
    · refine ifT e ⟨_, rfl, _, _, _, _, _, rfl, .ty "bool", dx_ty hd, isx_bool d, _, rfl, ?_⟩
      have z : (!isBool d) = isInt d := by cases d <;> simp [isIntLike, isBool, isInt] at e ⊢
      show Q (.bl (!isBool d)) H
      rw [z]
      exact q
    · refine ifF (by simpa using e) ?_
      have z : isInt d = false := by cases d <;> simp [isIntLike, isInt] at e ⊢
      rw [z] at q
      exact q
/-- a whole number below n, not below 0 -/
def belowD (n : Int) : PyData → Bool
  | .int i => decide (0 ≤ i) && decide (i < n)
  | _ => false
def spBelow (K : PySem.W.Frag) : Sp := fun vs H Q _ => ∃ (x : V) (d : PyData) (n : Int), vs = [x, .int n] ∧ Dx K H x d ∧ Q (.bl (belowD n d)) H
theorem fo_is_below {f f1 : Addr} {fd fd1 : FuncData} (F : Fun K "is_below" "is_below" s_is_below f fd) (F_is_integer : Fun K "is_integer" "is_integer" s_is_integer f1 fd1) (m_is_integer : mg "is_integer" = some (.ref f1)) (b_is_integer : Binds K fd1 ["thing"] []) (T : Txt mg) : FnOk P w K mg base CX0 2 f fd ["thing", "size"] (spBelow K) := by
  have G_is_integer : FnOk P w K mg base CX0 1 f1 fd1 ["thing"] (spIsInt K) := fo_is_integer F_is_integer T
  refine F.ok sc_is_below (fun vs H Q E h => ?_) (fun cdv A outer s H vs Q E hr h => ?_)
  · obtain ⟨x, d, n, rfl, _⟩ := h
    rfl
  · obtain ⟨x, d, n, rfl, hd, q⟩ := h
    have nd := sc_is_below.nd
    refine ⟨_, (pss_one (ps_ret (pe_and (pe_call G_is_integer (hr.mono (by decide)) (by rfl) m_is_integer F_is_integer.kp b_is_integer .nil pass0 (pa_cons (pv 0) pa_nil)) (pe_one (pe_chain op_le op_lt pe_int (pv 0) (pv 1)))))), ?_⟩
    refine ⟨_, rfl, x, d, rfl, hd, _, rfl, ?_⟩
    by_cases e : isInt d = true
    · obtain ⟨i, rfl⟩ : ∃ i, d = .int i := by cases d <;> simp [isInt] at e ⊢
      obtain rfl : x = .int i := by cases hd; rfl
      refine ifT e ⟨_, rfl, _, _, rfl, rfl, _, rfl, ?_⟩
      by_cases h0 : (0 : Int) ≤ i
      · refine ifT (decide_eq_true h0) ⟨_, rfl, _, _, rfl, rfl, ?_⟩
        have z : belowD n (.int i) = decide (i < n) := by simp [belowD, h0]
        rw [z] at q
        exact q
      · refine ifF (decide_eq_false h0) ?_
        have z : belowD n (.int i) = false := by simp [belowD, h0]
        rw [z] at q
        exact q
    · refine ifF (by simpa using e) ?_
      have z : belowD n d = false := by cases d <;> simp [belowD, isInt] at e ⊢
      rw [z] at q
      exact q
/-- a small letter -/
def isLetN (g : Nat) : Bool := decide (97 ≤ g) && decide (g ≤ 122)
def spIsLet : Sp := fun vs H Q _ => ∃ g : Nat, vs = [.str ⟨#[g]⟩] ∧ Q (.bl (isLetN g)) H
theorem le_sign (a b : Nat) : (!decide ((⟨#[b]⟩ : Str).cps.toList < (⟨#[a]⟩ : Str).cps.toList)) = decide (a ≤ b) := by
  have e : ((⟨#[b]⟩ : Str).cps.toList < (⟨#[a]⟩ : Str).cps.toList) ↔ b < a := by
    show [b] < [a] ↔ b < a
    rw [List.cons_lt_cons_iff]
    refine ⟨fun h => ?_, .inl⟩
    rcases h with h | ⟨_, h⟩
    · exact h
    · exact absurd h (List.not_lt_nil _)
  rw [decide_eq_decide.mpr e]
  by_cases h : b < a
  · rw [decide_eq_true h, decide_eq_false (by omega)]
    rfl
  · rw [decide_eq_false h, decide_eq_true (by omega)]
    rfl
theorem lt_sign (a b : Nat) : decide ((⟨#[a]⟩ : Str).cps.toList < (⟨#[b]⟩ : Str).cps.toList) = decide (a < b) := by
  have e : ((⟨#[a]⟩ : Str).cps.toList < (⟨#[b]⟩ : Str).cps.toList) ↔ a < b := by
    show [a] < [b] ↔ a < b
    rw [List.cons_lt_cons_iff]
    refine ⟨fun h => ?_, .inl⟩
    rcases h with h | ⟨_, h⟩
    · exact h
    · exact absurd h (List.not_lt_nil _)
  exact decide_eq_decide.mpr e
theorem sign_a : Str.ofString "a" = ⟨#[97]⟩ := by decide +kernel
theorem sign_z : Str.ofString "z" = ⟨#[122]⟩ := by decide +kernel
theorem fo_is_letter {f : Addr} {fd : FuncData} (F : Fun K "is_letter" "is_letter" s_is_letter f fd) (T : Txt mg) : FnOk P w K mg base CX0 1 f fd ["thing"] spIsLet := by
  refine F.ok sc_is_letter (fun vs H Q E h => ?_) (fun cdv A outer s H vs Q E hr h => ?_)
  · obtain ⟨g, rfl, _⟩ := h
    rfl
  · obtain ⟨g, rfl, q⟩ := h
    have nd := sc_is_letter.nd
    refine ⟨_, (pss_one (ps_ret (pe_and (pe_callB (k_isi (K := K)) (by rfl) T.isinstance (by decide +kernel) (pa_cons (pv 0) (pa_cons (pe_bltn (v := .ty "str") (by rfl) T.str (by decide +kernel) rfl) pa_nil))) (pe_and (pe_cmpR op_eq (pe_callB call_len_str (by rfl) T.len (by decide +kernel) (pa_cons (pv 0) pa_nil)) pe_int (nomark _)) (pe_one (pe_chain op_le_str op_le_str pe_str (pv 0) pe_str)))))), ?_⟩
    refine ⟨_, rfl, _, _, _, _, _, rfl, .ty "str", .base (.str _), kit_ty (by decide +kernel), _, rfl, ifT rfl ?_⟩
    refine ⟨_, rfl, _, rfl, by show 1 ≤ sizeLine; decide, rfl, _, rfl, ifT (decide_eq_true rfl) ?_⟩
    refine ⟨_, rfl, _, _, rfl, rfl, _, rfl, ?_⟩
    rw [sign_a, sign_z, le_sign]
    by_cases h : 97 ≤ g
    · refine ifT (decide_eq_true h) ⟨_, _, rfl, rfl, ?_⟩
      rw [le_sign]
      have z : isLetN g = decide (g ≤ 122) := by unfold isLetN; rw [decide_eq_true h, Bool.true_and]
      rw [z] at q
      exact q
    · refine ifF (decide_eq_false h) ?_
      have z : isLetN g = false := by unfold isLetN; rw [decide_eq_false h, Bool.false_and]
      rw [z] at q
      exact q
/-- a move stands at p; moves stand at a -/
def MvAt (K : PySem.W.Frag) (H : Hp) (p : Addr) (m : Mv) : Prop := SqT K H p [.int (m.1 : Int), .str (sgn m.2.1), .int (m.2.2 : Int)]
def MvsAt (K : PySem.W.Frag) (H : Hp) (a : Addr) (ms : List Mv) : Prop := ∃ ps : List Addr, SqT K H a (ps.map V.ref) ∧ ps.length = ms.length ∧ ∀ (i : Nat) (p : Addr), ps[i]? = some p → ∃ m, ms[i]? = some m ∧ MvAt K H p m
theorem MvsAt.same {H H2 : Hp} {a : Addr} {ms : List Mv} (s : Same H H2) (h : MvsAt K H a ms) : MvsAt K H2 a ms := by
  obtain ⟨ps, h1, h2, h3⟩ := h
  exact ⟨ps, sameT s h1, h2, fun i p e => by
    obtain ⟨m, h4, h5⟩ := h3 i p e
    exact ⟨m, h4, sameT s h5⟩⟩
theorem MvAt.dp {H : Hp} {p : Addr} {m : Mv} (h : MvAt K H p m) : Dp K H (.ref p) (mvD m) := .tup h (.cons (.int _) (.cons (.str _) (.cons (.int _) .nil)))
theorem tup_ty {H : Hp} {a : Addr} {xs : List V} (h : SqT K H a xs) : TyX K H (.ref a) (.type "tuple") := by
  rcases h with (h | ⟨o, h⟩) | ⟨o, _, _, h, c, _⟩
  · exact .base (.tup h)
  · exact .fTuple h
  · exact .kTuple h c
def spTupOf (K : PySem.W.Frag) : Sp := fun vs H Q _ => ∃ (a : Addr) (xs : List V) (n : Nat), vs = [.ref a, .int n] ∧ SqT K H a xs ∧ Q (.bl (decide (xs.length = n))) H
theorem fo_is_tuple_of {f : Addr} {fd : FuncData} (F : Fun K "is_tuple_of" "is_tuple_of" s_is_tuple_of f fd) (T : Txt mg) : FnOk P w K mg base CX0 1 f fd ["thing", "many"] (spTupOf K) := by
  refine F.ok sc_is_tuple_of (fun vs H Q E h => ?_) (fun cdv A outer s H vs Q E hr h => ?_)
  · obtain ⟨a, xs, n, rfl, _⟩ := h
    rfl
  · obtain ⟨a, xs, n, rfl, hT, q⟩ := h
    have nd := sc_is_tuple_of.nd
    refine ⟨_, (pss_one (ps_ret (pe_and (pe_callB (k_isi (K := K)) (by rfl) T.isinstance (by decide +kernel) (pa_cons (pv 0) (pa_cons (pe_bltn (v := .ty "tuple") (by rfl) T.tuple (by decide +kernel) rfl) pa_nil))) (pe_one (pe_cmpR op_eq (pe_callB (k_len (K := K)) (by rfl) T.len (by decide +kernel) (pa_cons (pv 0) pa_nil)) (pv 1) (nomark _)))))), ?_⟩
    refine ⟨_, rfl, _, _, _, _, _, rfl, .ty "tuple", tup_ty hT, kit_ty (by decide +kernel), _, rfl, ifT rfl ?_⟩
    refine ⟨_, rfl, a, xs, rfl, .inr hT, _, rfl, rfl, ?_⟩
    have e : decide (V.int (xs.length : Int) = V.int (n : Int)) = decide (xs.length = n) := decide_eq_decide.mpr ⟨fun h => by injection h with h; omega, fun h => by rw [h]⟩
    rw [e]
    exact q
/-- things that go up -/
def spAscM (K : PySem.W.Frag) : Sp := fun vs H Q _ => ∃ (a : Addr) (ms : List Mv), vs = [.ref a] ∧ MvsAt K H a ms ∧ ms.length ≤ 5000 ∧ (∀ i x y, ms[i]? = some x → ms[i + 1]? = some y → Lat x y) ∧ ∀ H2, Same H H2 → Q (.bl true) H2
def natsV (l : List Nat) : List V := l.map fun n : Nat => V.int (n : Int)
def spAscI (K : PySem.W.Frag) : Sp := fun vs H Q _ => ∃ (a : Addr) (ns : List Nat), vs = [.ref a] ∧ SqT K H a (natsV ns) ∧ ns.length ≤ 5000 ∧ ns.Pairwise (· < ·) ∧ ∀ H2, Same H H2 → Q (.bl true) H2
theorem all_true (n : Nat) : ((List.range n).map fun _ => true).all id = true := by simp
theorem cut_tl {α : Type} (xs : List α) (f : α → V) : cutV (xs.map f) (some 1) none = (xs.drop 1).map f := by
  unfold cutV
  rw [HT.sIx_none, show HT.sIx (xs.map f).length 0 (some 1) = min 1 (xs.map f).length from HT.sIx_nat _ _ 1, List.length_map]
  cases xs with
  | nil => rfl
  | cons x xs =>
    rw [show min 1 (x :: xs).length = 1 by rw [List.length_cons]; omega, List.map_cons]
    show ((xs.map f).take _) = xs.map f
    exact List.take_of_length_le (by rw [List.length_map, List.length_cons]; omega)
theorem fo_ascM {f : Addr} {fd : FuncData} (F : Fun K "is_ascending" "is_ascending" s_is_ascending f fd) (T : Txt mg) : FnOk P w K mg base CX0 1 f fd ["things"] (spAscM K) := by
  refine F.ok sc_is_ascending (fun vs H Q E h => ?_) (fun cdv A outer s H vs Q E hr h => ?_)
  · obtain ⟨a, ms, rfl, _⟩ := h
    rfl
  · obtain ⟨a, ms, rfl, hM, hl, up, q⟩ := h
    have nd := sc_is_ascending.nd
    refine ⟨_, (pss_one (ps_ret (pe_callB (k_all (K := K) rfl) (by rfl) T.all (by decide +kernel) (pa_cons (pe_lc (own := [("one", 1), ("other", 2)]) rfl nd (k_zipA (K := K) (by rfl) T.zip (pa_cons (pv 0) (pa_cons (pe_slice (k_slU (K := K)) (pv 0) (po_some pe_int) po_none) pa_nil))) (blkOk_by (N := N_is_ascending) (sc := defScope s_is_ascending) (by decide +kernel)) (fun _ _ _ _ _ => (k_tg (K := K) (n := 2) rfl (pgs_cons (pg_name (i := 1) nd rfl (Or.inl rfl)) (pgs_cons (pg_name (i := 2) nd rfl (Or.inl rfl)) pgs_nil)))) (fun _ _ _ _ _ => pts_nil) (fun _ _ _ _ _ => (pe_cmpR (op_ltD (K := K) hr.units) (pv 1) (pv 2) (nomark _)))) pa_nil)))), ?_⟩
    obtain ⟨ps, hT, lps, hms⟩ := hM
    clean_wf
    refine ⟨a, _, rfl, hT, fun b H1 s1 hb => ?_⟩
    have hT1 := sameT s1 hT
    rw [cut_tl] at hb
    refine ⟨a, b, _, _, rfl, .inr ⟨hT1, hb, fun D nD => ?_⟩⟩
    refine lc_valW (walk_zipT (K := K) (n := ps.length - 1) (by rw [List.length_map, List.length_map, List.length_drop]; omega)) (by omega) nD (fun i => V.bl true) (fun H2 s2 => ⟨sameT s2 hT1, sameT s2 hb⟩) ?_ ?_
    · rintro i x H2 H3 hi s2 ⟨Tp, x1, x2, rfl, hTp, rfl, e1, e2⟩ R hR
      dsimp only at e1 e2
      rw [List.getElem?_map] at e1 e2
      obtain ⟨c, hc, rfl⟩ := Option.map_eq_some_iff.mp e1
      obtain ⟨e, he, rfl⟩ := Option.map_eq_some_iff.mp e2
      rw [List.getElem?_drop, Nat.add_comm] at he
      obtain ⟨m1, g1, at1⟩ := hms i c hc
      obtain ⟨m2, g2, at2⟩ := hms (i + 1) e he
      have s3 := (s1.trans s2).trans (same_new (o := .tup [V.ref c, V.ref e]) hTp)
      refine ⟨Tp, _, rfl, .inl (.inl upd_same), rfl, _, _, rfl, _, _, rfl, rfl, wipe2 _ _ _ _ _, ?_⟩
      refine ⟨_, rfl, _, rfl, mvD m1, mvD m2, dp_same s3 at1.dp, dp_same s3 at2.dp, alike_mv _ _, nofun, by simp [mvD, PyData.depth, PyData.depthAll], ?_⟩
      rw [lt_mv (up i m1 m2 g1 g2)]
      exact hR _ (same_new (o := .tup [V.ref c, V.ref e]) hTp)
    · intro H2 s2 hD2
      refine ⟨D, _, rfl, SqL.of (hD2.trans (congrArg (fun l => some (HO.lst l)) (bls_map (fun _ : Nat => true)))), ?_⟩
      rw [all_true]
      exact q _ (s1.trans s2)
theorem fo_ascI {f : Addr} {fd : FuncData} (F : Fun K "is_ascending" "is_ascending" s_is_ascending f fd) (T : Txt mg) : FnOk P w K mg base CX0 1 f fd ["things"] (spAscI K) := by
  refine F.ok sc_is_ascending (fun vs H Q E h => ?_) (fun cdv A outer s H vs Q E hr h => ?_)
  · obtain ⟨a, ns, rfl, _⟩ := h
    rfl
  · obtain ⟨a, ns, rfl, hT, hl, up, q⟩ := h
    have nd := sc_is_ascending.nd
    refine ⟨_, (pss_one (ps_ret (pe_callB (k_all (K := K) rfl) (by rfl) T.all (by decide +kernel) (pa_cons (pe_lc (own := [("one", 1), ("other", 2)]) rfl nd (k_zipA (K := K) (by rfl) T.zip (pa_cons (pv 0) (pa_cons (pe_slice (k_slU (K := K)) (pv 0) (po_some pe_int) po_none) pa_nil))) (blkOk_by (N := N_is_ascending) (sc := defScope s_is_ascending) (by decide +kernel)) (fun _ _ _ _ _ => (k_tg (K := K) (n := 2) rfl (pgs_cons (pg_name (i := 1) nd rfl (Or.inl rfl)) (pgs_cons (pg_name (i := 2) nd rfl (Or.inl rfl)) pgs_nil)))) (fun _ _ _ _ _ => pts_nil) (fun _ _ _ _ _ => (pe_cmpR (op_ltD (K := K) hr.units) (pv 1) (pv 2) (nomark _)))) pa_nil)))), ?_⟩
    clean_wf
    refine ⟨a, _, rfl, hT, fun b H1 s1 hb => ?_⟩
    have hT1 := sameT s1 hT
    unfold natsV at hT1 hb
    rw [cut_tl] at hb
    refine ⟨a, b, _, _, rfl, .inr ⟨hT1, hb, fun D nD => ?_⟩⟩
    refine lc_valW (walk_zipT (K := K) (n := ns.length - 1) (by rw [List.length_map, List.length_map, List.length_drop]; omega)) (by omega) nD (fun i => V.bl true) (fun H2 s2 => ⟨sameT s2 hT1, sameT s2 hb⟩) ?_ ?_
    · rintro i x H2 H3 hi s2 ⟨Tp, x1, x2, rfl, hTp, rfl, e1, e2⟩ R hR
      dsimp only at e1 e2
      rw [List.getElem?_map] at e1 e2
      obtain ⟨c, hc, rfl⟩ := Option.map_eq_some_iff.mp e1
      obtain ⟨e, he, rfl⟩ := Option.map_eq_some_iff.mp e2
      rw [List.getElem?_drop, Nat.add_comm] at he
      obtain ⟨lt1, ec⟩ := List.getElem?_eq_some_iff.mp hc
      obtain ⟨lt2, ee⟩ := List.getElem?_eq_some_iff.mp he
      have z := List.pairwise_iff_getElem.mp up i (i + 1) lt1 lt2 (Nat.lt_succ_self i)
      rw [ec, ee] at z
      refine ⟨Tp, _, rfl, .inl (.inl upd_same), rfl, _, _, rfl, _, _, rfl, rfl, wipe2 _ _ _ _ _, ?_⟩
      refine ⟨_, rfl, _, rfl, .int (c : Int), .int (e : Int), .int _, .int _, by simp [PySem.W.alike], nofun, by simp [PyData.depth], ?_⟩
      rw [PySem.W.dataLt_int, decide_eq_true (by omega : (c : Int) < e)]
      exact hR _ (same_new (o := .tup [V.int c, V.int e]) hTp)
    · intro H2 s2 hD2
      refine ⟨D, _, rfl, SqL.of (hD2.trans (congrArg (fun l => some (HO.lst l)) (bls_map (fun _ : Nat => true)))), ?_⟩
      rw [all_true]
      exact q _ (s1.trans s2)
end
end SG

/-! Right parts are found right. -/
namespace SG
open PySem PySem.Spec PyProof.Rows L2
local macro_rules
  | `(tactic| clean_wf) => `(tactic| repeat (first | refine ⟨_, rfl, ?_⟩ | refine ⟨rfl, ?_⟩ | refine ⟨_, _, rfl, ?_⟩ | refine ⟨_, _, rfl, rfl, ?_⟩ | refine ⟨_, _, _, rfl, ?_⟩ | refine ⟨_, _, _, _, rfl, ?_⟩))
local macro_rules
  | `(tactic| exists $u:ident, $n:ident, $H:ident, $q:ident, $e:ident) => `(tactic| (refine ⟨by first | exact Nat.zero_le _ | assumption | (simp only [List.length_cons, List.length_nil]; decide), fun $u $n => ?_⟩; generalize hh : upd _ $u _ = $H; obtain ⟨$q, $e⟩ := mkq $n hh; clear hh))
local macro_rules
  | `(tactic| simp_wf) => `(tactic| first | assumption | exact upd_same | (refine (by assumption : Same _ _) _ _ ?_; simp_wf) | (refine (by assumption : Kept _ _ _ _) _ _ ?_ (by assumption) (by assumption); simp_wf))
local macro_rules
  | `(tactic| decreasing_trivial) => `(tactic| first | assumption | exact .inl (.inl (by assumption)) | (refine sameT (by assumption) ?_; decreasing_trivial))
local macro_rules
  | `(tactic| array_get_dec) => `(tactic| first | assumption | (refine CdAt.same (by assumption) ?_; array_get_dec))
def OkM (n : Nat) (m : Mv) : Prop := m.1 < n ∧ (97 ≤ m.2.1 ∧ m.2.1 ≤ 122) ∧ m.2.2 < n
section
variable {P : Program} {w : World} {K : PySem.W.Frag} {mg : Str → Option Value} {base : Heap}
def spMove (K : PySem.W.Frag) : Sp := fun vs H Q _ => ∃ (p : Addr) (n : Nat) (m : Mv), vs = [.ref p, .int n] ∧ MvAt K H p m ∧ OkM n m ∧ Q (.bl true) H
theorem fo_is_move {f f1 f2 f3 f4 : Addr} {fd fd1 fd2 fd3 fd4 : FuncData} (F : Fun K "is_move" "is_move" s_is_move f fd) (F_is_tuple_of : Fun K "is_tuple_of" "is_tuple_of" s_is_tuple_of f1 fd1) (m_is_tuple_of : mg "is_tuple_of" = some (.ref f1)) (b_is_tuple_of : Binds K fd1 ["thing", "many"] [])
    (F_is_below : Fun K "is_below" "is_below" s_is_below f2 fd2) (m_is_below : mg "is_below" = some (.ref f2)) (b_is_below : Binds K fd2 ["thing", "size"] []) (F_is_letter : Fun K "is_letter" "is_letter" s_is_letter f3 fd3) (m_is_letter : mg "is_letter" = some (.ref f3)) (b_is_letter : Binds K fd3 ["thing"] [])
    (F_is_integer : Fun K "is_integer" "is_integer" s_is_integer f4 fd4) (m_is_integer : mg "is_integer" = some (.ref f4)) (b_is_integer : Binds K fd4 ["thing"] []) (T : Txt mg) : FnOk P w K mg base CX0 3 f fd ["thing", "size"] (spMove K) := by
  have G_is_tuple_of : FnOk P w K mg base CX0 1 f1 fd1 ["thing", "many"] (spTupOf K) := fo_is_tuple_of F_is_tuple_of T
  have G_is_below : FnOk P w K mg base CX0 2 f2 fd2 ["thing", "size"] (spBelow K) := fo_is_below F_is_below F_is_integer m_is_integer b_is_integer T
  have G_is_letter : FnOk P w K mg base CX0 1 f3 fd3 ["thing"] spIsLet := fo_is_letter F_is_letter T
  refine F.ok sc_is_move (fun vs H Q E h => ?_) (fun cdv A outer s H vs Q E hr h => ?_)
  · obtain ⟨p, n, m, rfl, _⟩ := h
    rfl
  · obtain ⟨p, n, m, rfl, hT, ⟨o1, o2, o3⟩, q⟩ := h
    have nd := sc_is_move.nd
    refine ⟨_, (pss_one (ps_ret (pe_and (pe_call G_is_tuple_of (hr.mono (by decide)) (by rfl) m_is_tuple_of F_is_tuple_of.kp b_is_tuple_of .nil pass0 (pa_cons (pv 0) (pa_cons pe_int pa_nil))) (pe_and (pe_call G_is_below (hr.mono (by decide)) (by rfl) m_is_below F_is_below.kp b_is_below .nil pass0 (pa_cons (pe_ix (k_ixT (K := K)) (pv 0) pe_int (fun _ _ => rfl)) (pa_cons (pv 1) pa_nil))) (pe_and (pe_call G_is_letter (hr.mono (by decide)) (by rfl) m_is_letter F_is_letter.kp b_is_letter .nil pass0 (pa_cons (pe_ix (k_ixT (K := K)) (pv 0) pe_int (fun _ _ => rfl)) pa_nil)) (pe_one (pe_call G_is_below (hr.mono (by decide)) (by rfl) m_is_below F_is_below.kp b_is_below .nil pass0 (pa_cons (pe_ix (k_ixT (K := K)) (pv 0) pe_int (fun _ _ => rfl)) (pa_cons (pv 1) pa_nil))))))))), ?_⟩
    clean_wf
    refine ⟨p, _, 3, rfl, hT, ?_⟩
    clean_wf
    refine ⟨p, _, 0, _, rfl, rfl, hT, atI_nat (j := 0) rfl, ?_⟩
    clean_wf
    refine ⟨_, .int (m.1 : Int), _, rfl, .int _, ?_⟩
    rw [show belowD (n : Int) (.int (m.1 : Int)) = true by simp only [belowD, Bool.and_eq_true, decide_eq_true_eq]; omega]
    clean_wf
    refine ⟨p, _, 1, _, rfl, rfl, hT, atI_nat (j := 1) rfl, ?_⟩
    refine ⟨m.2.1, rfl, ?_⟩
    rw [show isLetN m.2.1 = true by simp only [isLetN, Bool.and_eq_true, decide_eq_true_eq]; exact o2]
    clean_wf
    refine ⟨p, _, 2, _, rfl, rfl, hT, atI_nat (j := 2) rfl, ?_⟩
    clean_wf
    refine ⟨_, .int (m.2.2 : Int), _, rfl, .int _, ?_⟩
    rw [show belowD (n : Int) (.int (m.2.2 : Int)) = true by simp only [belowD, Bool.and_eq_true, decide_eq_true_eq]; omega]
    exact q
def spMoves (K : PySem.W.Frag) : Sp := fun vs H Q _ => ∃ (a : Addr) (n : Nat) (ms : List Mv), vs = [.ref a, .int n] ∧ MvsAt K H a ms ∧ (∀ m ∈ ms, OkM n m) ∧ ms.length ≤ 5000 ∧ (∀ i x y, ms[i]? = some x → ms[i + 1]? = some y → Lat x y) ∧ ∀ H2, Same H H2 → Q (.bl true) H2
theorem fo_are_moves {f f0 f1 f2 f3 f4 f5 : Addr} {fd fd0 fd1 fd2 fd3 fd4 fd5 : FuncData} (F : Fun K "are_moves" "are_moves" s_are_moves f fd) (F_is_move : Fun K "is_move" "is_move" s_is_move f0 fd0) (m_is_move : mg "is_move" = some (.ref f0)) (b_is_move : Binds K fd0 ["thing", "size"] [])
    (F_is_tuple_of : Fun K "is_tuple_of" "is_tuple_of" s_is_tuple_of f1 fd1) (m_is_tuple_of : mg "is_tuple_of" = some (.ref f1)) (b_is_tuple_of : Binds K fd1 ["thing", "many"] [])
    (F_is_below : Fun K "is_below" "is_below" s_is_below f2 fd2) (m_is_below : mg "is_below" = some (.ref f2)) (b_is_below : Binds K fd2 ["thing", "size"] []) (F_is_letter : Fun K "is_letter" "is_letter" s_is_letter f3 fd3) (m_is_letter : mg "is_letter" = some (.ref f3)) (b_is_letter : Binds K fd3 ["thing"] [])
    (F_is_integer : Fun K "is_integer" "is_integer" s_is_integer f4 fd4) (m_is_integer : mg "is_integer" = some (.ref f4)) (b_is_integer : Binds K fd4 ["thing"] [])
    (F_is_ascending : Fun K "is_ascending" "is_ascending" s_is_ascending f5 fd5) (m_is_ascending : mg "is_ascending" = some (.ref f5)) (b_is_ascending : Binds K fd5 ["things"] []) (T : Txt mg) : FnOk P w K mg base CX0 4 f fd ["thing", "size"] (spMoves K) := by
  have G_is_move : FnOk P w K mg base CX0 3 f0 fd0 ["thing", "size"] (spMove K) := fo_is_move F_is_move F_is_tuple_of m_is_tuple_of b_is_tuple_of F_is_below m_is_below b_is_below F_is_letter m_is_letter b_is_letter F_is_integer m_is_integer b_is_integer T
  have G_is_ascending : FnOk P w K mg base CX0 1 f5 fd5 ["things"] (spAscM K) := fo_ascM F_is_ascending T
  refine F.ok sc_are_moves (fun vs H Q E h => ?_) (fun cdv A outer s H vs Q E hr h => ?_)
  · obtain ⟨a, n, ms, rfl, _⟩ := h
    rfl
  · obtain ⟨a, n, ms, rfl, hM, ok, hl, up, q⟩ := h
    have nd := sc_are_moves.nd
    refine ⟨_, (pss_one (ps_ret (pe_and (pe_callB (k_isi (K := K)) (by rfl) T.isinstance (by decide +kernel) (pa_cons (pv 0) (pa_cons (pe_bltn (v := .ty "tuple") (by rfl) T.tuple (by decide +kernel) rfl) pa_nil))) (pe_and (pe_callB (k_all (K := K) rfl) (by rfl) T.all (by decide +kernel) (pa_cons (pe_lc (own := [("move", 2)]) rfl nd (pi_tup (pv 0)) (blkOk_by (N := N_are_moves) (sc := defScope s_are_moves) (by decide +kernel)) (fun _ _ _ _ _ => (pg_name (i := 2) nd rfl (Or.inl rfl))) (fun _ _ _ _ _ => pts_nil) (fun _ _ _ _ _ => (pe_call G_is_move (hr.mono (by decide)) (by rfl) m_is_move F_is_move.kp b_is_move .nil pass0 (pa_cons (pv 2) (pa_cons (pv 1) pa_nil))))) pa_nil)) (pe_one (pe_call G_is_ascending (hr.mono (by decide)) (by rfl) m_is_ascending F_is_ascending.kp b_is_ascending .nil pass0 (pa_cons (pv 0) pa_nil))))))), ?_⟩
    have hM0 := hM
    obtain ⟨ps, hT, lps, hms⟩ := hM
    refine ⟨_, rfl, _, _, _, _, _, rfl, .ty "tuple", tup_ty hT, kit_ty (by decide +kernel), _, rfl, ifT rfl ?_⟩
    clean_wf
    refine ⟨⟨_, hT⟩, fun D nD => ?_⟩
    refine lc_valW (walk_tup (K := K) (a := a) (xs := ps.map V.ref)) (by rw [List.length_map]; omega) nD (fun i => V.bl true) (fun H2 s2 => sameT s2 hT) ?_ ?_
    · rintro i x H2 H3 hi s2 ⟨rfl, hx⟩ R hR
      rw [List.getElem?_map] at hx
      obtain ⟨p, hp, rfl⟩ := Option.map_eq_some_iff.mp hx
      obtain ⟨m, gm, am⟩ := hms i p hp
      refine ⟨wipe1 _ _ _, ?_⟩
      clean_wf
      exact ⟨p, n, m, rfl, sameT s2 am, ok m (List.mem_of_getElem? gm), hR _ (Same.refl _)⟩
    intro H2 s2 hD
    refine ⟨D, _, rfl, SqL.of (hD.trans (congrArg (fun l => some (HO.lst l)) (bls_map (fun _ : Nat => true)))), ?_⟩
    rw [all_true]
    clean_wf
    exact ⟨a, ms, rfl, hM0.same s2, hl, up, fun H3 s3 => q H3 (s2.trans s3)⟩
theorem str_ok {g : Nat} (h : g ≤ 122) : PyData.strOk (sgn g) = true := by
  unfold PyData.strOk sgn
  simp
  omega
def spSingle (K : PySem.W.Frag) : Sp := fun vs H Q _ => ∃ (a : Addr) (ms : List Mv), vs = [.ref a] ∧ MvsAt K H a ms ∧ ms.length ≤ 5000 ∧ (∀ m ∈ ms, m.2.1 ≤ 122) ∧ (∀ i x y, ms[i]? = some x → ms[i + 1]? = some y → Lat x y) ∧ ∀ H2, Same H H2 → Q (.bl true) H2
theorem fo_are_single {f : Addr} {fd : FuncData} (F : Fun K "are_single" "are_single" s_are_single f fd) (T : Txt mg) : FnOk P w K mg base CX0 1 f fd ["moves"] (spSingle K) := by
  refine F.ok sc_are_single (fun vs H Q E h => ?_) (fun cdv A outer s H vs Q E hr h => ?_)
  · obtain ⟨a, ms, rfl, _⟩ := h
    rfl
  · obtain ⟨a, ms, rfl, hM, hl, low, up, q⟩ := h
    have nd := sc_are_single.nd
    refine ⟨_, (pss_one (ps_ret (pe_callB (k_all (K := K) rfl) (by rfl) T.all (by decide +kernel) (pa_cons (pe_lc (own := [("one", 1), ("other", 2)]) rfl nd (k_zipA (K := K) (by rfl) T.zip (pa_cons (pv 0) (pa_cons (pe_slice (k_slU (K := K)) (pv 0) (po_some pe_int) po_none) pa_nil))) (blkOk_by (N := N_are_single) (sc := defScope s_are_single) (by decide +kernel)) (fun _ _ _ _ _ => (k_tg (K := K) (n := 2) rfl (pgs_cons (pg_name (i := 1) nd rfl (Or.inl rfl)) (pgs_cons (pg_name (i := 2) nd rfl (Or.inl rfl)) pgs_nil)))) (fun _ _ _ _ _ => pts_nil) (fun _ _ _ _ _ => (pe_cmpR (k_neD (K := K) hr.units) (pe_slice (k_slU (K := K)) (pv 1) po_none (po_some pe_int)) (pe_slice (k_slU (K := K)) (pv 2) po_none (po_some pe_int)) (nomark _)))) pa_nil)))), ?_⟩
    obtain ⟨ps, hT, lps, hms⟩ := hM
    clean_wf
    refine ⟨a, _, rfl, hT, fun b H1 s1 hb => ?_⟩
    have hT1 := sameT s1 hT
    rw [cut_tl] at hb
    refine ⟨a, b, _, _, rfl, .inr ⟨hT1, hb, fun D nD => ?_⟩⟩
    refine lc_valW (walk_zipT (K := K) (n := ps.length - 1) (by rw [List.length_map, List.length_map, List.length_drop]; omega)) (by omega) nD (fun i => V.bl true) (fun H2 s2 => ⟨sameT s2 hT1, sameT s2 hb⟩) ?_ ?_
    · rintro i x H2 H3 hi s2 ⟨Tp, x1, x2, rfl, hTp, rfl, e1, e2⟩ R hR
      dsimp only at e1 e2
      rw [List.getElem?_map] at e1 e2
      obtain ⟨c, hc, rfl⟩ := Option.map_eq_some_iff.mp e1
      obtain ⟨e, he, rfl⟩ := Option.map_eq_some_iff.mp e2
      rw [List.getElem?_drop, Nat.add_comm] at he
      obtain ⟨m1, g1, at1⟩ := hms i c hc
      obtain ⟨m2, g2, at2⟩ := hms (i + 1) e he
      have s3 := (s1.trans s2).trans (same_new (o := .tup [V.ref c, V.ref e]) hTp)
      refine ⟨Tp, _, rfl, .inl (.inl upd_same), rfl, _, _, rfl, _, _, rfl, rfl, wipe2 _ _ _ _ _, ?_⟩
      have a1 := sameT s3 at1
      have a2 := sameT s3 at2
      clean_wf
      refine ⟨c, _, rfl, a1, fun u1 H4 s4 h4 => ?_⟩
      clean_wf
      refine ⟨e, _, rfl, sameT s4 a2, fun u2 H5 s5 h5 => ?_⟩
      have c1 : ∀ x y z : V, cutV [x, y, z] none (some 2) = [x, y] := fun _ _ _ => rfl
      rw [c1] at h4 h5
      have n12 := up i m1 m2 g1 g2
      have ne : PyData.eqv (.tuple [.int (m1.1 : Int), .str (sgn m1.2.1)]) (.tuple [.int (m2.1 : Int), .str (sgn m2.2.1)]) = false := by
        simp only [PyData.eqv, PyData.eqvAll, Bool.and_true, Bool.and_eq_false_iff]
        rcases n12 with h | ⟨_, h⟩
        · exact .inl (by rw [beq_eq_false_iff_ne]; omega)
        · refine .inr ?_
          rw [beq_eq_false_iff_ne]
          intro z
          have z : (#[m1.2.1] : Array Nat) = #[m2.2.1] := congrArg Str.cps z
          have : m1.2.1 = m2.2.1 := by simpa using z
          omega
      refine ⟨_, _, .tup (sameT s5 h4) (.cons (.int _) (.cons (.str _) .nil)), .tup h5 (.cons (.int _) (.cons (.str _) .nil)), by simp [SeqAt.shaped, PyData.canLay0, PyData.canLayAll0, PyData.depth, PyData.depthAll, str_ok (low m1 (List.mem_of_getElem? g1))], by simp [SeqAt.shaped, PyData.canLay0, PyData.canLayAll0, PyData.depth, PyData.depthAll, str_ok (low m2 (List.mem_of_getElem? g2))], ?_⟩
      rw [ne]
      exact hR _ (((same_new (o := .tup [V.ref c, V.ref e]) hTp).trans s4).trans s5)
    · intro H2 s2 hD2
      refine ⟨D, _, rfl, SqL.of (hD2.trans (congrArg (fun l => some (HO.lst l)) (bls_map (fun _ : Nat => true)))), ?_⟩
      rw [all_true]
      exact q _ (s1.trans s2)
def spEnds (K : PySem.W.Frag) : Sp := fun vs H Q _ => ∃ (a : Addr) (n : Nat) (es : List Nat), vs = [.ref a, .int n] ∧ SqT K H a (natsV es) ∧ (∀ e ∈ es, e < n) ∧ es.Pairwise (· < ·) ∧ es.length ≤ 5000 ∧ ∀ H2, Same H H2 → Q (.bl true) H2
theorem fo_are_ends {f f2 f4 f5 : Addr} {fd fd2 fd4 fd5 : FuncData} (F : Fun K "are_ends" "are_ends" s_are_ends f fd) (F_is_below : Fun K "is_below" "is_below" s_is_below f2 fd2) (m_is_below : mg "is_below" = some (.ref f2)) (b_is_below : Binds K fd2 ["thing", "size"] [])
    (F_is_integer : Fun K "is_integer" "is_integer" s_is_integer f4 fd4) (m_is_integer : mg "is_integer" = some (.ref f4)) (b_is_integer : Binds K fd4 ["thing"] []) (F_is_ascending : Fun K "is_ascending" "is_ascending" s_is_ascending f5 fd5) (m_is_ascending : mg "is_ascending" = some (.ref f5)) (b_is_ascending : Binds K fd5 ["things"] []) (T : Txt mg) :
    FnOk P w K mg base CX0 3 f fd ["thing", "size"] (spEnds K) := by
  have G_is_below : FnOk P w K mg base CX0 2 f2 fd2 ["thing", "size"] (spBelow K) := fo_is_below F_is_below F_is_integer m_is_integer b_is_integer T
  have G_is_ascending : FnOk P w K mg base CX0 1 f5 fd5 ["things"] (spAscI K) := fo_ascI F_is_ascending T
  refine F.ok sc_are_ends (fun vs H Q E h => ?_) (fun cdv A outer s H vs Q E hr h => ?_)
  · obtain ⟨a, n, es, rfl, _⟩ := h
    rfl
  · obtain ⟨a, n, es, rfl, hT, lt, up, hl, q⟩ := h
    have nd := sc_are_ends.nd
    refine ⟨_, (pss_one (ps_ret (pe_and (pe_callB (k_isi (K := K)) (by rfl) T.isinstance (by decide +kernel) (pa_cons (pv 0) (pa_cons (pe_bltn (v := .ty "tuple") (by rfl) T.tuple (by decide +kernel) rfl) pa_nil))) (pe_and (pe_callB (k_all (K := K) rfl) (by rfl) T.all (by decide +kernel) (pa_cons (pe_lc (own := [("end", 2)]) rfl nd (pi_tup (pv 0)) (blkOk_by (N := N_are_ends) (sc := defScope s_are_ends) (by decide +kernel)) (fun _ _ _ _ _ => (pg_name (i := 2) nd rfl (Or.inl rfl))) (fun _ _ _ _ _ => pts_nil) (fun _ _ _ _ _ => (pe_call G_is_below (hr.mono (by decide)) (by rfl) m_is_below F_is_below.kp b_is_below .nil pass0 (pa_cons (pv 2) (pa_cons (pv 1) pa_nil))))) pa_nil)) (pe_one (pe_call G_is_ascending (hr.mono (by decide)) (by rfl) m_is_ascending F_is_ascending.kp b_is_ascending .nil pass0 (pa_cons (pv 0) pa_nil))))))), ?_⟩
    refine ⟨_, rfl, _, _, _, _, _, rfl, .ty "tuple", tup_ty hT, kit_ty (by decide +kernel), _, rfl, ifT rfl ?_⟩
    clean_wf
    refine ⟨⟨_, hT⟩, fun D nD => ?_⟩
    refine lc_valW (walk_tup (K := K) (a := a) (xs := natsV es)) (by unfold natsV; rw [List.length_map]; omega) nD (fun i => V.bl true) (fun H2 s2 => sameT s2 hT) ?_ ?_
    · rintro i x H2 H3 hi s2 ⟨rfl, hx⟩ R hR
      unfold natsV at hx
      rw [List.getElem?_map] at hx
      obtain ⟨e, he, rfl⟩ := Option.map_eq_some_iff.mp hx
      refine ⟨wipe1 _ _ _, ?_⟩
      clean_wf
      have := lt e (List.mem_of_getElem? he)
      refine ⟨_, .int (e : Int), _, rfl, .int _, ?_⟩
      rw [show belowD (n : Int) (.int (e : Int)) = true by simp only [belowD, Bool.and_eq_true, decide_eq_true_eq]; omega]
      exact hR _ (Same.refl _)
    intro H2 s2 hD
    refine ⟨D, _, rfl, SqL.of (hD.trans (congrArg (fun l => some (HO.lst l)) (bls_map (fun _ : Nat => true)))), ?_⟩
    rw [all_true]
    clean_wf
    exact ⟨a, es, rfl, sameT s2 hT, hl, up, fun H3 s3 => q H3 (s2.trans s3)⟩
/-- the parts of a format -/
structure FmOk (n : Nat) (ms : List Mv) (es : List Nat) : Prop where
  n0 : 0 < n
  ok : ∀ m ∈ ms, OkM n m
  up : ∀ i x y, ms[i]? = some x → ms[i + 1]? = some y → Lat x y
  lt : ∀ e ∈ es, e < n
  upE : es.Pairwise (· < ·)
  nl : n ≤ 1000
  ml : ms.length ≤ 1000
  el : es.length ≤ 1000
def spWrong (K : PySem.W.Frag) : Sp := fun vs H Q _ => ∃ (am ae : Addr) (n : Nat) (ms : List Mv) (es : List Nat) (sg : Bool), vs = [.int n, .ref am, .ref ae, .bl sg] ∧ MvsAt K H am ms ∧ SqT K H ae (natsV es) ∧ FmOk n ms es ∧ ∀ H2, Same H H2 → Q .non H2
theorem fo_wrong {f f0 f1 f2 f3 f4 f5 f6 f7 f8 : Addr} {fd fd0 fd1 fd2 fd3 fd4 fd5 fd6 fd7 fd8 : FuncData} (F : Fun K "wrong_part" "wrong_part" s_wrong_part f fd) (F_is_move : Fun K "is_move" "is_move" s_is_move f0 fd0) (m_is_move : mg "is_move" = some (.ref f0)) (b_is_move : Binds K fd0 ["thing", "size"] [])
    (F_is_tuple_of : Fun K "is_tuple_of" "is_tuple_of" s_is_tuple_of f1 fd1) (m_is_tuple_of : mg "is_tuple_of" = some (.ref f1)) (b_is_tuple_of : Binds K fd1 ["thing", "many"] [])
    (F_is_below : Fun K "is_below" "is_below" s_is_below f2 fd2) (m_is_below : mg "is_below" = some (.ref f2)) (b_is_below : Binds K fd2 ["thing", "size"] []) (F_is_letter : Fun K "is_letter" "is_letter" s_is_letter f3 fd3) (m_is_letter : mg "is_letter" = some (.ref f3)) (b_is_letter : Binds K fd3 ["thing"] [])
    (F_is_integer : Fun K "is_integer" "is_integer" s_is_integer f4 fd4) (m_is_integer : mg "is_integer" = some (.ref f4)) (b_is_integer : Binds K fd4 ["thing"] [])
    (F_is_ascending : Fun K "is_ascending" "is_ascending" s_is_ascending f5 fd5) (m_is_ascending : mg "is_ascending" = some (.ref f5)) (b_is_ascending : Binds K fd5 ["things"] [])
    (F_are_moves : Fun K "are_moves" "are_moves" s_are_moves f6 fd6) (m_are_moves : mg "are_moves" = some (.ref f6)) (b_are_moves : Binds K fd6 ["thing", "size"] []) (F_are_single : Fun K "are_single" "are_single" s_are_single f7 fd7) (m_are_single : mg "are_single" = some (.ref f7)) (b_are_single : Binds K fd7 ["moves"] [])
    (F_are_ends : Fun K "are_ends" "are_ends" s_are_ends f8 fd8) (m_are_ends : mg "are_ends" = some (.ref f8)) (b_are_ends : Binds K fd8 ["thing", "size"] []) (T : Txt mg) : FnOk P w K mg base CX0 5 f fd ["size", "moves", "ends", "is_single"] (spWrong K) := by
  have G_is_integer : FnOk P w K mg base CX0 1 f4 fd4 ["thing"] (spIsInt K) := fo_is_integer F_is_integer T
  have G_are_moves : FnOk P w K mg base CX0 4 f6 fd6 ["thing", "size"] (spMoves K) := fo_are_moves F_are_moves F_is_move m_is_move b_is_move F_is_tuple_of m_is_tuple_of b_is_tuple_of F_is_below m_is_below b_is_below F_is_letter m_is_letter b_is_letter F_is_integer m_is_integer b_is_integer F_is_ascending m_is_ascending b_is_ascending T
  have G_are_single : FnOk P w K mg base CX0 1 f7 fd7 ["moves"] (spSingle K) := fo_are_single F_are_single T
  have G_are_ends : FnOk P w K mg base CX0 3 f8 fd8 ["thing", "size"] (spEnds K) := fo_are_ends F_are_ends F_is_below m_is_below b_is_below F_is_integer m_is_integer b_is_integer F_is_ascending m_is_ascending b_is_ascending T
  refine F.ok sc_wrong_part (fun vs H Q E h => ?_) (fun cdv A outer s H vs Q E hr h => ?_)
  · obtain ⟨am, ae, n, ms, es, sg, rfl, _⟩ := h
    rfl
  · obtain ⟨am, ae, n, ms, es, sg, rfl, hM, hE, O, q⟩ := h
    have nd := sc_wrong_part.nd
    refine ⟨_, (pss_cons (ps_if (PW.pt (pw_or (pt_not (pt_val (pe_call G_is_integer (hr.mono (by decide)) (by rfl) m_is_integer F_is_integer.kp b_is_integer .nil pass0 (pa_cons (pv 0) pa_nil)))) (pw_or1 (pt_cmpR op_lt (pv 0) pe_int (nomark _))))) (pss_one (ps_ret pe_str)) pss_nil)
      (pss_cons (ps_if (PW.pt (pw_or (pt_not (pt_val (pe_call G_are_moves (hr.mono (by decide)) (by rfl) m_are_moves F_are_moves.kp b_are_moves .nil pass0 (pa_cons (pv 1) (pa_cons (pv 0) pa_nil))))) (pw_or1 (PW.pt (pw_and (pt_val (pv 3)) (pw_and1 (pt_not (pt_val (pe_call G_are_single (hr.mono (by decide)) (by rfl) m_are_single F_are_single.kp b_are_single .nil pass0 (pa_cons (pv 1) pa_nil)))))))))) (pss_one (ps_ret pe_str)) pss_nil)
      (pss_cons (ps_if (pt_not (pt_val (pe_call G_are_ends (hr.mono (by decide)) (by rfl) m_are_ends F_are_ends.kp b_are_ends .nil pass0 (pa_cons (pv 2) (pa_cons (pv 0) pa_nil))))) (pss_one (ps_ret pe_str)) pss_nil)
      (pss_one (ps_ret pe_non))))), ?_⟩
    have n0 := O.n0
    have nl := O.ml
    have el := O.el
    clean_wf
    refine ⟨_, .int (n : Int), rfl, .int _, ?_⟩
    clean_wf
    rw [show decide ((n : Int) < 1) = false from decide_eq_false (by omega)]
    refine ifF rfl (nextI ?_)
    clean_wf
    refine ⟨am, n, ms, rfl, hM, O.ok, by omega, O.up, fun H1 s1 => ?_⟩
    clean_wf
    have hE1 := sameT s1 hE
    cases sg with
    | false =>
      clean_wf
      refine ⟨ae, n, es, rfl, hE1, O.lt, O.upE, by omega, fun H3 s3 => ?_⟩
      clean_wf
      exact q H3 (s1.trans s3)
    | true =>
      clean_wf
      refine ⟨am, ms, rfl, hM.same s1, by omega, fun m hm => (O.ok m hm).2.1.2, O.up, fun H2 s2 => ?_⟩
      clean_wf
      refine ⟨ae, n, es, rfl, sameT s2 hE1, O.lt, O.upE, by omega, fun H3 s3 => ?_⟩
      clean_wf
      exact q H3 ((s1.trans s2).trans s3)
end
end SG

/-! Which states are reached. -/
namespace SG
open PySem PySem.Spec PyProof.Rows L2
local macro_rules
  | `(tactic| clean_wf) => `(tactic| repeat (first | refine ⟨_, rfl, ?_⟩ | refine ⟨rfl, ?_⟩ | refine ⟨_, _, rfl, ?_⟩ | refine ⟨_, _, rfl, rfl, ?_⟩ | refine ⟨_, _, _, rfl, ?_⟩ | refine ⟨_, _, _, _, rfl, ?_⟩))
local macro_rules
  | `(tactic| exists $u:ident, $n:ident, $H:ident, $q:ident, $e:ident) => `(tactic| (refine ⟨by first | exact Nat.zero_le _ | assumption | (simp only [List.length_cons, List.length_nil]; decide), fun $u $n => ?_⟩; generalize hh : upd _ $u _ = $H; obtain ⟨$q, $e⟩ := mkq $n hh; clear hh))
local macro_rules
  | `(tactic| simp_wf) => `(tactic| first | assumption | exact upd_same | (refine (by assumption : Same _ _) _ _ ?_; simp_wf) | (refine (by assumption : Kept _ _ _ _) _ _ ?_ (by assumption) (by assumption); simp_wf))
local macro_rules
  | `(tactic| decreasing_trivial) => `(tactic| first | assumption | exact .inl (.inl (by assumption)) | (refine sameT (by assumption) ?_; decreasing_trivial))
local macro_rules
  | `(tactic| array_get_dec) => `(tactic| first | assumption | (refine CdAt.same (by assumption) ?_; array_get_dec))
theorem dc_it {J : It} {n : Nat} {G : Hp → Prop} {Y : Nat → Hp → V → Hp → Prop} (w : Walk J n G Y) {g : TG} {tt : TT} {tk tv : TE} {vs : List Nat} {σ : L2.St} {H1 : Hp} {D : Addr} {Qd : Hp → Prop} (Pv : Nat → Hp → Prop) (h0 : Pv 0 (upd H1 D (.dK []))) (hG : ∀ i H, i ≤ n → Pv i H → G H)
    (hs : ∀ i x H H', i < n → Pv i H → Y i H x H' → g x (wipe σ vs) H' fun σ2 H2 => wipe σ2 vs = wipe σ vs ∧ tt σ2 H2 fun b H3 =>
      if b = true then tk σ2 H3 fun y H4 => tv σ2 H4 fun z H5 => ∃ kvs k, y = kV k ∧ H5 D = some (.dK kvs) ∧ kvs.length < sizeLine ∧ Pv (i + 1) (upd H5 D (.dK (putK kvs k z))) else Pv (i + 1) H3) (hd : ∀ H, Pv n H → Qd H) :
    ∃ W : Nat → Nat → Hp → Prop, (∃ m, W 0 m (upd H1 D (.dK []))) ∧ ∀ i m H, W i m H →
      (J.stop i H ∧ Qd H) ∨ (J.go i H ∧ ∃ Nx : Hp → Prop, (∀ H', Nx H' → ∃ m', m' < m ∧ W (i + 1) m' H') ∧ ∀ x H', J.yld i H x H' → g x (wipe σ vs) H' fun σ2 H2 => wipe σ2 vs = wipe σ vs ∧ tt σ2 H2 fun b H3 =>
        if b = true then tk σ2 H3 fun y H4 => tv σ2 H4 fun z H5 => ∃ kvs k, y = kV k ∧ H5 D = some (.dK kvs) ∧ kvs.length < sizeLine ∧ Nx (upd H5 D (.dK (putK kvs k z))) else Nx H3) := by
  refine ⟨fun i m H => m = n - i ∧ i ≤ n ∧ Pv i H, ⟨n, by simp, Nat.zero_le _, h0⟩, ?_⟩
  rintro i m H ⟨rfl, hi, p⟩
  have q := hG i H hi p
  by_cases hlt : i < n
  · refine .inr ⟨w.goes i H hlt q, Pv (i + 1), fun H' p' => ⟨n - (i + 1), by omega, rfl, hlt, p'⟩, fun x H' y => hs i x H H' hlt p (w.yields i H x H' hlt q y)⟩
  · have e : i = n := by omega
    subst e
    exact .inl ⟨w.stops H q, hd H p⟩
theorem natsV_len (l : List Nat) : (natsV l).length = l.length := List.length_map ..
theorem natsV_at {l : List Nat} {k : Nat} (h : k < l.length) : (natsV l)[k]? = some (V.int (l.getD k 0 : Nat)) := by
  unfold natsV
  rw [List.getElem?_map, List.getElem?_eq_getElem h, List.getD_eq_getElem?_getD, List.getElem?_eq_getElem h]
  rfl
theorem natsV_some {l : List Nat} {k : Nat} {x : V} (h : (natsV l)[k]? = some x) : k < l.length ∧ x = V.int (l.getD k 0 : Nat) := by
  have hk : k < l.length := by
    rw [← natsV_len]
    exact (List.getElem?_eq_some_iff.mp h).1
  rw [natsV_at hk] at h
  exact ⟨hk, (Option.some.inj h).symm⟩
/-- the keys of a dict {n: True for n in l} -/
def trueD (l : List Nat) : List (Key × V) := l.map fun n : Nat => (Sum.inl (n : Int), V.bl true)
theorem val_true (l : List Nat) (n : Nat) : (valV (trueD l) (Sum.inl (n : Int))).isSome = decide (n ∈ l) := by
  unfold trueD valV
  induction l with
  | nil => simp
  | cons a l ih =>
    rw [List.map_cons]
    by_cases h : a = n
    · subst h
      simp
    · have h2 : decide ((Sum.inl (a : Int) : Key) = Sum.inl (n : Int)) = false := decide_eq_false fun z => h (by injection z with z; omega)
      rw [List.find?_cons]
      simp only [h2]
      rw [ih]
      exact decide_eq_decide.mpr (by simp [Ne.symm h])
theorem put_true {l : List Nat} {n : Nat} (h : ¬ n ∈ l) : putK (trueD l) (Sum.inl (n : Int)) (V.bl true) = trueD (l ++ [n]) := by
  have e : ((trueD l).any fun kv => decide (kv.1 = (Sum.inl (n : Int) : Key))) = false := by
    rw [List.any_eq_false]
    intro kv hkv
    obtain ⟨m, hm, rfl⟩ := List.mem_map.mp hkv
    have : ¬ ((Sum.inl (m : Int) : Key) = Sum.inl (n : Int)) := fun z => h (by
      injection z with z
      have z2 : m = n := by omega
      rw [← z2]
      exact hm)
    simp [this]
  unfold putK
  rw [e]
  unfold trueD
  simp
theorem wipe_len1 (σ : L2.St) (i : Nat) : (wipe σ [i]).length = σ.length := by
  show (σ.set i none).length = _
  rw [List.length_set]
section
variable {P : Program} {w : World} {K : PySem.W.Frag} {mg : Str → Option Value} {base : Heap}
theorem dc_true {J : It} {R : List Nat} {G : Hp → Prop} (wk : Walk J (natsV R).length G (YAt (natsV R))) {H : Hp} {D : Addr} {sl : Nat} {σ : L2.St} {Qd : Hp → Prop} (hG : ∀ H2, Same H H2 → G H2) (nd : R.Nodup) (hsl : sl < σ.length) (hl : R.length ≤ 5000) (nD : H D = none) (done : ∀ H2, Same H H2 → H2 D = some (.dK (trueD R)) → Qd H2) :
    ∃ W : Nat → Nat → Hp → Prop, (∃ m, W 0 m (upd H D (.dK []))) ∧ ∀ i m H, W i m H →
      (J.stop i H ∧ Qd H) ∨ (J.go i H ∧ ∃ Nx : Hp → Prop, (∀ H', Nx H' → ∃ m', m' < m ∧ W (i + 1) m' H') ∧ ∀ x H', J.yld i H x H' → gName sl x (wipe σ [sl]) H' fun σ2 H2 => wipe σ2 [sl] = wipe σ [sl] ∧ tYes σ2 H2 fun b H3 =>
        if b = true then tVar sl σ2 H3 fun y H4 => tC (.bl true) σ2 H4 fun z H5 => ∃ kvs k, y = kV k ∧ H5 D = some (.dK kvs) ∧ kvs.length < sizeLine ∧ Nx (upd H5 D (.dK (putK kvs k z))) else Nx H3) := by
  refine dc_it wk (fun i HI => Same H HI ∧ HI D = some (.dK (trueD (R.take i)))) ⟨same_new nD, upd_same⟩ (fun i H _ h => hG _ h.1) ?_ ?_
  · rintro i x H2 H3 hi ⟨s2, h2⟩ ⟨rfl, hx⟩
    obtain ⟨hk, rfl⟩ := natsV_some hx
    refine ⟨wipe1 _ _ _, yesI ?_⟩
    have hn : ¬ R.getD i 0 ∈ R.take i := fun hm => by
      obtain ⟨j, hj, e⟩ := List.getElem_of_mem hm
      rw [List.getElem_take] at e
      have hj2 : j < i := by rw [List.length_take] at hj; omega
      have z := List.pairwise_iff_getElem.mp nd j i (Nat.lt_trans hj2 hk) hk hj2
      rw [List.getD_eq_getElem?_getD, List.getElem?_eq_getElem hk] at e
      exact z e
    have hs : ((wipe σ [sl]).set sl (some (V.int (R.getD i 0 : Nat))))[sl]? = some (some (V.int (R.getD i 0 : Nat))) := by
      rw [List.getElem?_set_self]
      rw [wipe_len1]
      exact hsl
    refine ⟨_, hs, trueD (R.take i), Sum.inl (R.getD i 0 : Int), rfl, h2, Nat.lt_of_lt_of_le (show (trueD (R.take i)).length < 5001 by unfold trueD; rw [List.length_map, List.length_take]; omega) (by decide), same_upd_of s2 nD, ?_⟩
    rw [upd_same, put_true hn, List.take_add_one, List.getElem?_eq_getElem hk, List.getD_eq_getElem?_getD, List.getElem?_eq_getElem hk]
    rfl
  rintro H2 ⟨s2, h2⟩
  rw [natsV_len, List.take_length] at h2
  exact done H2 s2 h2
/-- a table: from states to lists of states -/
def TabAt (H : Hp) (a : Addr) (R : Key → List Nat) : Prop := ∃ kvs, H a = some (.dK kvs) ∧ ∀ k, (valV kvs k = none ∧ R k = []) ∨ ∃ b : Addr, valV kvs k = some (.ref b) ∧ H b = some (.lst (natsV (R k)))
theorem TabAt.same {H H2 : Hp} {a : Addr} {R : Key → List Nat} (s : Same H H2) (h : TabAt H a R) : TabAt H2 a R := by
  obtain ⟨kvs, h1, h2⟩ := h
  refine ⟨kvs, s _ _ h1, fun k => ?_⟩
  rcases h2 k with z | ⟨b, h3, h4⟩
  · exact .inl z
  · exact .inr ⟨b, h3, s _ _ h4⟩
/-- what is reached from some, by a table -/
inductive Rea (R : Key → List Nat) (S : List Nat) : Nat → Prop
  | base {s : Nat} : s ∈ S → Rea R S s
  | step {s g : Nat} : Rea R S s → g ∈ R (Sum.inl (s : Int)) → Rea R S g
def spReached (K : PySem.W.Frag) : Sp := fun vs H Q _ => ∃ (a tb : Addr) (S : List Nat) (n : Nat) (R : Key → List Nat), vs = [.ref a, .ref tb] ∧ (SqL K H a (natsV S) ∨ SqT K H a (natsV S)) ∧ S.Nodup ∧ (∀ s ∈ S, s < n) ∧ n ≤ 1000 ∧ TabAt H tb R ∧ (∀ k, ∀ g ∈ R k, g < n) ∧
  ∀ (p : Addr) (L : List Nat) (H2 : Hp), Same H H2 → H p = none → H2 p = some (.dK (trueD L)) → L.Nodup → (∀ x ∈ L, x < n) → (∀ x, x ∈ L ↔ Rea R S x) → Q (.ref p) H2
theorem nodup_add {L : List Nat} {g : Nat} (nd : L.Nodup) (h : ¬ g ∈ L) : (L ++ [g]).Nodup := by
  refine List.nodup_append.mpr ⟨nd, by simp, fun x hx y hy z => h ?_⟩
  rw [List.mem_singleton.mp hy] at z
  exact z ▸ hx
theorem nodup_len : ∀ {n : Nat} {L : List Nat}, L.Nodup → (∀ x ∈ L, x < n) → L.length ≤ n := by
  intro n L nd h
  have z := List.Nodup.length_le_of_subset nd (fun x hx => List.mem_range.mpr (h x hx))
  rwa [List.length_range] at z
/-- the states met so far, and those that wait: the goals of all others, and the first i of the goals gs of st, are met -/
structure RchL (R : Key → List Nat) (S : List Nat) (n M : Nat) (st : Nat) (i : Nat) (L W : List Nat) : Prop where
  nd : L.Nodup
  lt : ∀ x ∈ L, x < n
  lw : ∀ x ∈ W, x < n
  ms : 2 * (n - L.length) + W.length ≤ M
  so : ∀ x ∈ L, Rea R S x
  ws : ∀ x ∈ W, x ∈ L
  sl : ∀ s ∈ S, s ∈ L
  cl : ∀ s ∈ L, s ∈ W ∨ s = st ∨ ∀ g ∈ R (Sum.inl (s : Int)), g ∈ L
  go : ∀ g ∈ (R (Sum.inl (st : Int))).take i, g ∈ L
  me : st ∈ L
def Rch (H : Hp) (a tb : Addr) (R : Key → List Nat) (S : List Nat) (n M : Nat) (st i : Nat) (σ : L2.St) (H2 : Hp) : Prop := ∃ (p q : Addr) (L W : List Nat) (y4 y5 : Option V), σ = [some (.ref a), some (.ref tb), some (.ref p), some (.ref q), y4, y5] ∧ Same H H2 ∧ H p = none ∧ H q = none ∧ p ≠ q ∧ H2 p = some (.dK (trueD L)) ∧ H2 q = some (.lst (natsV W)) ∧ RchL R S n M st i L W
theorem natsV_drop (W : List Nat) : (natsV W).dropLast = natsV W.dropLast := by
  unfold natsV
  rw [List.map_dropLast]
theorem natsV_app (W : List Nat) (g : Nat) : natsV W ++ [V.int (g : Int)] = natsV (W ++ [g]) := by
  unfold natsV
  rw [List.map_append]
  rfl
theorem getD_mem {l : List Nat} {k : Nat} (h : k < l.length) : l.getD k 0 ∈ l := by
  rw [List.getD_eq_getElem?_getD, List.getElem?_eq_getElem h]
  exact List.getElem_mem h
theorem take_get {l : List Nat} {i : Nat} (h : i < l.length) : l.take (i + 1) = l.take i ++ [l.getD i 0] := by
  rw [List.take_add_one, List.getElem?_eq_getElem h, List.getD_eq_getElem?_getD, List.getElem?_eq_getElem h]
  rfl
theorem Rch.step {H H2 : Hp} {a tb : Addr} {R : Key → List Nat} {S : List Nat} {n M st : Nat} (lt : ∀ g ∈ R (Sum.inl (st : Int)), g < n) (n1 : n ≤ 1000) (hM : M ≤ 2000) {i : Nat} (hi : i < (R (Sum.inl (st : Int))).length) {σ : L2.St} (h : Rch H a tb R S n M st i σ H2) {De : Ends} (k : ∀ σ3 H3, Rch H a tb R S n M st (i + 1) σ3 H3 → De.nx σ3 H3) :
    gName 5 (V.int ((R (Sum.inl (st : Int))).getD i 0 : Nat)) σ H2 fun σ2 H2 => tIfS (tB (tDNotIn (tVar 5) (tVar 2))) (tSeq (sDPut (tVar 2) (tVar 5) (tC (V.bl true))) (tDrop (tBM K "list" rAppend (tVar 3) (tCons (tVar 5) tNil)))) tNext De σ2 H2 := by
  obtain ⟨p, q, L, W, y4, y5, rfl, s2, np, nq, pq, hp, hq, G⟩ := h
  have gm := getD_mem hi
  have hg := lt _ gm
  have tk := take_get hi
  generalize (R (Sum.inl (st : Int))).getD i 0 = g at hg gm tk ⊢
  refine ⟨_, rfl, _, rfl, p, _, rfl, DGet.k (k := Sum.inl (g : Int)) hp, ?_⟩
  rw [val_true]
  by_cases m : g ∈ L
  · refine ⟨_, rfl, ifF ?_ ?_⟩
    · simp [m]
    refine k _ _ ⟨p, q, L, W, y4, _, rfl, s2, np, nq, pq, hp, hq, ⟨G.nd, G.lt, G.lw, G.ms, G.so, G.ws, G.sl, G.cl, fun x hx => ?_, G.me⟩⟩
    rw [tk] at hx
    rcases List.mem_append.mp hx with z | z
    · exact G.go x z
    · rw [List.mem_singleton.mp z]; exact m
  · refine ⟨_, rfl, ifT ?_ ?_⟩
    · simp [m]
    have l1 := nodup_len (nodup_add G.nd m) (n := n) (fun x hx => by
      rcases List.mem_append.mp hx with z | z
      · exact G.lt x z
      · rw [List.mem_singleton.mp z]
        exact hg)
    rw [List.length_append, List.length_singleton] at l1
    have gms := G.ms
    have dl : (trueD L).length < sizeLine := Nat.lt_of_lt_of_le (show (trueD L).length < 1001 by unfold trueD; rw [List.length_map]; omega) (by decide)
    have wl : (natsV W).length < sizeLine := Nat.lt_of_lt_of_le (show (natsV W).length < 2001 by rw [natsV_len]; omega) (by decide)
    have hq2 : upd H2 p (.dK (trueD (L ++ [g]))) q = some (.lst (natsV W)) := (upd_ne (Ne.symm pq)).trans hq
    have hd := DPut.k (k := Sum.inl (g : Int)) (v := V.bl true) hp dl
    rw [put_true m] at hd
    refine ⟨_, rfl, _, rfl, p, _, rfl, hd, _, rfl, .inl ⟨rfl, _, SqL.of hq2⟩, _, rfl, q, _, _, rfl, rfl, hq2, wl, ?_⟩
    have up : ∀ x ∈ L, x ∈ L ++ [g] := fun x hx => List.mem_append.mpr (.inl hx)
    refine k _ _ ⟨p, q, L ++ [g], W ++ [g], y4, _, rfl, same_upd_of (same_upd_of s2 np) nq, np, nq, pq, ?_, ?_, ⟨nodup_add G.nd m, ?_, ?_, ?_, ?_, ?_, fun s hs => up s (G.sl s hs), ?_, ?_, up _ G.me⟩⟩
    · exact (upd_ne pq).trans upd_same
    · rw [upd_same, natsV_app]
    · intro x hx
      rcases List.mem_append.mp hx with z | z
      · exact G.lt x z
      · rw [List.mem_singleton.mp z]
        exact hg
    · intro x hx
      rcases List.mem_append.mp hx with z | z
      · exact G.lw x z
      · rw [List.mem_singleton.mp z]
        exact hg
    · simp only [List.length_append, List.length_singleton]
      omega
    · intro x hx
      rcases List.mem_append.mp hx with z | z
      · exact G.so x z
      · rw [List.mem_singleton.mp z]
        exact .step (G.so _ G.me) gm
    · intro x hx
      rcases List.mem_append.mp hx with z | z
      · exact up x (G.ws x z)
      · rw [List.mem_singleton.mp z]
        exact List.mem_append.mpr (.inr (List.mem_singleton.mpr rfl))
    · intro s hs
      rcases List.mem_append.mp hs with z | z
      · rcases G.cl s z with y | y | y
        · exact .inl (List.mem_append.mpr (.inl y))
        · exact .inr (.inl y)
        · exact .inr (.inr fun x hx => up x (y x hx))
      · rw [List.mem_singleton.mp z]
        exact .inl (List.mem_append.mpr (.inr (List.mem_singleton.mpr rfl)))
    · intro x hx
      rw [tk] at hx
      rcases List.mem_append.mp hx with z | z
      · exact up x (G.go x z)
      · rw [List.mem_singleton.mp z]
        exact List.mem_append.mpr (.inr (List.mem_singleton.mpr rfl))
theorem rea_closed {R : Key → List Nat} {S L : List Nat} (h0 : ∀ s ∈ S, s ∈ L) (h1 : ∀ s ∈ L, ∀ g ∈ R (Sum.inl (s : Int)), g ∈ L) {x : Nat} (h : Rea R S x) : x ∈ L := by
  induction h with
  | base hs => exact h0 _ hs
  | step _ hg ih => exact h1 _ ih _ hg
/-- between the rounds -/
structure Rch0 (R : Key → List Nat) (S : List Nat) (n M : Nat) (L W : List Nat) : Prop where
  nd : L.Nodup
  lt : ∀ x ∈ L, x < n
  lw : ∀ x ∈ W, x < n
  ms : 2 * (n - L.length) + W.length ≤ M
  so : ∀ x ∈ L, Rea R S x
  ws : ∀ x ∈ W, x ∈ L
  sl : ∀ s ∈ S, s ∈ L
  cl : ∀ s ∈ L, s ∈ W ∨ ∀ g ∈ R (Sum.inl (s : Int)), g ∈ L
def Rcw (H : Hp) (a tb : Addr) (R : Key → List Nat) (S : List Nat) (n M : Nat) (σ : L2.St) (H2 : Hp) : Prop := ∃ (p q : Addr) (L W : List Nat) (y4 y5 : Option V), σ = [some (.ref a), some (.ref tb), some (.ref p), some (.ref q), y4, y5] ∧ Same H H2 ∧ H p = none ∧ H q = none ∧ p ≠ q ∧ H2 p = some (.dK (trueD L)) ∧ H2 q = some (.lst (natsV W)) ∧ Rch0 R S n M L W
theorem Rch.done {H H2 : Hp} {a tb : Addr} {R : Key → List Nat} {S : List Nat} {n M st : Nat} {σ : L2.St} (h : Rch H a tb R S n M st (R (Sum.inl (st : Int))).length σ H2) : Rcw H a tb R S n M σ H2 := by
  obtain ⟨p, q, L, W, y4, y5, rfl, s2, np, nq, pq, hp, hq, G⟩ := h
  refine ⟨p, q, L, W, y4, y5, rfl, s2, np, nq, pq, hp, hq, ⟨G.nd, G.lt, G.lw, G.ms, G.so, G.ws, G.sl, fun s hs => ?_⟩⟩
  rcases G.cl s hs with z | z | z
  · exact .inl z
  · refine .inr fun g hg => G.go g ?_
    rw [List.take_length, ← z]
    exact hg
  · exact .inr z
theorem fo_reached {f : Addr} {fd : FuncData} (F : Fun K "reached" "reached" s_reached f fd) (T : Txt mg) : FnOk P w K mg base CX0 1 f fd ["starts", "table"] (spReached K) := by
  refine F.ok sc_reached (fun vs H Q E h => ?_) (fun cdv A outer s H vs Q E hr h => ?_)
  · obtain ⟨a, tb, S, n, R, rfl, _⟩ := h
    rfl
  · obtain ⟨a, tb, S, n, R, rfl, hS, nS, lt, n1, hT, ltR, q⟩ := h
    have nd := sc_reached.nd
    refine ⟨_, (pss_cons (ps_setDc (i := 2) (own := [("state", 4)]) rfl nd rfl rfl (sw_trueD rfl rfl rfl (by decide +kernel)) (pi_seq (K := K) (pv 0)) (blkOk_by (N := N_reached) (sc := defScope s_reached) (by decide +kernel)) (fun _ _ _ _ _ => (pg_name (i := 4) nd rfl (Or.inl rfl))) (fun _ _ _ _ _ => pts_nil) (fun _ _ _ _ _ => (pv 4)) (fun _ _ _ _ _ => pe_bl))
      (pss_cons (ps_set (i := 3) nd rfl (Or.inl rfl) (pe_callTy (k_listOf (K := K)) (by rfl) T.list (by decide +kernel) (pa_cons (pv 0) pa_nil)))
      (pss_cons (ps_while PassesOwn.never (pt_truth (pv 3) (by intro _; rfl)) (pss_cons (ps_set (i := 4) nd rfl (Or.inl rfl) (pe_bm0 PySem.F.plainAttrs_list PySem.F.slot_list_pop PySem.F.type_list_pop mt_pop (pv 3)))
      (pss_one (ps_for PassesOwn.never rfl (pi_seq (K := K) (pe_dget2 (hu_of hr) (pv 1) (pv 4) (pe_tup pa_nil) ⟨by rfl, by rfl, by rfl, by rfl⟩)) (pg_name (i := 5) nd rfl (Or.inl rfl))
        (pss_one (ps_if (pt_cmp (pc_dnotin (hu_of hr) (pv 5) (pv 2))) (pss_cons (ps_dput (hu_of hr) (pv 2) (pv 5) pe_bl rfl)
      (pss_one (ps_expr (pe_bm PySem.F.plainAttrs_list PySem.F.slot_list_append PySem.F.type_list_append mt_append (pv 3) (pa_cons (pv 5) pa_nil))))) pss_nil))))))
      (pss_one (ps_ret (pv 2)))))), ?_⟩
    clean_wf
    have n2 : S.length ≤ n := nodup_len nS lt
    have sl : S.length ≤ 5000 := by omega
    have go : ∀ (p : Addr) (H1 : Hp), H p = none → Same H H1 → H1 p = some (.dK (trueD S)) → tSeq (tAsg (tCB (rListOf K) (tCons (tVar 0) tNil)) (gName 3))
      (tSeq (tWhile (fun σ H Q => tVar 3 σ H fun x H' => ∃ k, TruV K x H' k ∧ Q k H') (tSeq (tAsg (tBM0 K "list" rPop (tVar 3)) (gName 4)) (tFor (iSeq K (tDGet2 (tVar 1) (tVar 4) (tTup tNil))) (gName 5)
        (tIfS (tB (tDNotIn (tVar 5) (tVar 2))) (tSeq (sDPut (tVar 2) (tVar 5) (tC (V.bl true))) (tDrop (tBM K "list" rAppend (tVar 3) (tCons (tVar 5) tNil)))) tNext)))) (tRet (tVar 2))) { nx := fun x H' => Q V.non H', rt := Q } [some (.ref a), some (.ref tb), some (.ref p), none, none, none] H1 := by
      intro p H1 np s1 hp
      refine ⟨_, rfl, a, natsV S, rfl, hS.imp s1.seq (sameT s1), fun z nz => ?_⟩
      have pq : p ≠ z := ne_of_none hp nz
      have n0q : H z = none := s1.free nz
      refine ⟨fun M σ H2 => M ≤ 2000 ∧ Rcw H a tb R S n M σ H2, ⟨2 * (n - S.length) + S.length, by omega, p, z, S, S, none, none, rfl, s1.trans (same_new nz), np, n0q, pq, (upd_ne pq).trans hp, upd_same, ⟨nS, lt, lt, Nat.le_refl _, fun x hx => .base hx, fun x hx => hx, fun x hx => hx, fun s hs => .inl hs⟩⟩, ?_⟩
      rintro M σ H2 ⟨M1, p2, q2, L, W, y4, y5, rfl, s2, np2, nq2, pq2, hp2, hq2, G⟩
      refine ⟨_, rfl, _, .inl ⟨_, SqL.of hq2, rfl⟩, ?_⟩
      by_cases em : W = []
      · subst em
        exact ⟨_, rfl, q p2 L H2 s2 np2 hp2 G.nd G.lt fun x => ⟨G.so x, rea_closed G.sl fun s hs => (G.cl s hs).resolve_left (fun z => nomatch z)⟩⟩
      have w1 : 0 < W.length := List.length_pos_iff.mpr em
      have e1 : (!(natsV W).isEmpty) = true := by
        cases W with
        | nil => exact absurd rfl em
        | cons _ _ => rfl
      rw [e1]
      have lastV : (natsV W)[(natsV W).length - 1]? = some (V.int (W.getD (W.length - 1) 0 : Nat)) := by
        rw [natsV_len]
        exact natsV_at (by omega)
      have hsm := getD_mem (show W.length - 1 < W.length by omega)
      have eW : W = W.dropLast ++ [W.getD (W.length - 1) 0] := by
        have z := take_get (show W.length - 1 < W.length by omega)
        rw [show W.length - 1 + 1 = W.length by omega, List.take_length, ← List.dropLast_eq_take] at z
        exact z
      generalize W.getD (W.length - 1) 0 = st at lastV hsm eW
      have hs := G.lw _ hsm
      have wd : W.dropLast.length = W.length - 1 := List.length_dropLast
      have gms := G.ms
      refine ⟨Rcw H a tb R S n (M - 1), fun σ' H' r => ⟨M - 1, by omega, by omega, r⟩, ?_⟩
      refine ⟨_, rfl, .inl ⟨rfl, _, SqL.of hq2⟩, q2, natsV W, _, rfl, rfl, hq2, lastV, ?_⟩
      have s3 : Same H (upd H2 q2 (.lst (natsV W).dropLast)) := same_upd_of s2 nq2
      obtain ⟨kvs, ht, hk⟩ := hT
      refine ⟨_, rfl, tb, rfl, .inl ⟨_, .inl (s3 _ _ ht)⟩, _, rfl, by decide, fun e ne => ?_⟩
      have s4 : Same H (upd (upd H2 q2 (.lst (natsV W).dropLast)) e (.tup [])) := s3.trans (same_new ne)
      have r4 : ∀ y5, Rch H a tb R S n (M - 1) st 0 [some (.ref a), some (.ref tb), some (.ref p2), some (.ref q2), some (V.int (st : Nat)), y5] (upd (upd H2 q2 (.lst (natsV W).dropLast)) e (.tup [])) := fun y5 =>
        ⟨p2, q2, L, W.dropLast, _, _, rfl, s4, np2, nq2, pq2, (upd_ne (ne_of_none ((upd_ne pq2).trans hp2) ne)).trans ((upd_ne pq2).trans hp2), (upd_ne (ne_of_none upd_same ne)).trans (upd_same.trans (by rw [natsV_drop])), ⟨G.nd, G.lt, fun x hx => G.lw x (List.dropLast_subset _ hx), by omega, G.so, fun x hx => G.ws x (List.dropLast_subset _ hx), G.sl, fun s hs => by
          rcases G.cl s hs with z | z
          · rw [eW] at z
            rcases List.mem_append.mp z with y | y
            · exact .inl y
            · exact .inr (.inl (List.mem_singleton.mp y))
          · exact .inr (.inr z), fun g hg => by simp at hg, G.ws _ hsm⟩⟩
      have he : upd (upd H2 q2 (.lst (natsV W).dropLast)) e (.tup []) e = some (.tup []) := upd_same
      generalize upd (upd H2 q2 (.lst (natsV W).dropLast)) e (.tup []) = H4 at s4 r4 he ⊢
      refine ⟨_, DGet.k (k := Sum.inl (st : Int)) (s4 _ _ ht), ?_⟩
      rcases hk (Sum.inl (st : Int)) with ⟨hv, hR⟩ | ⟨b, hv, hb⟩
      · rw [hv]
        refine ⟨e, rfl, .inr ⟨⟨[], .inl (.inl he)⟩, for_it (walk_tup (K := K) (a := e) (xs := [])) (fun i σ HI => Rch H a tb R S n (M - 1) st 0 σ HI ∧ SqT K HI e []) ⟨r4 _, .inl (.inl he)⟩ (fun i σ H2 _ h => h.2) (fun i x σ H2 H3 hi => absurd hi (Nat.not_lt_zero _)) (fun σ H2 h => Rch.done (st := st) (by rw [hR]; exact h.1))⟩⟩
      · rw [hv]
        refine ⟨b, rfl, .inl ⟨⟨_, SqL.of (s4 _ _ hb)⟩, for_it (walk_list (K := K) (a := b) (xs := natsV (R (Sum.inl (st : Int))))) (fun i σ HI => Rch H a tb R S n (M - 1) st i σ HI) (r4 _) (fun i σ H2 _ h => ?_) ?_ (fun σ H2 h => by rw [natsV_len] at h; exact h.done)⟩⟩
        · obtain ⟨_, _, _, _, _, _, _, z, _⟩ := h
          exact SqL.of (z _ _ hb)
        rintro i x σ H5 H6 hi r ⟨rfl, hx⟩
        obtain ⟨gk, rfl⟩ := natsV_some hx
        exact Rch.step (ltR _) n1 (by omega) gk r (fun σ3 H3 h => h)
    rcases hS with h | h
    · exact .inl ⟨⟨_, h⟩, fun D nD => dc_true (walk_list (K := K) (a := a) (xs := natsV S)) (fun H2 s2 => s2.seq h) nS (by show 4 < 6; decide) sl nD fun H2 s2 h2 => go D H2 nD s2 h2⟩
    · exact .inr ⟨⟨_, h⟩, fun D nD => dc_true (walk_tup (K := K) (a := a) (xs := natsV S)) (fun H2 s2 => sameT s2 h) nS (by show 4 < 6; decide) sl nD fun H2 s2 h2 => go D H2 nD s2 h2⟩
end
end SG

/-! The states met, the states alive, the table of goals. -/
namespace SG
open PySem PySem.Spec PyProof.Rows L2
local macro_rules
  | `(tactic| clean_wf) => `(tactic| repeat (first | refine ⟨_, rfl, ?_⟩ | refine ⟨rfl, ?_⟩ | refine ⟨_, _, rfl, ?_⟩ | refine ⟨_, _, rfl, rfl, ?_⟩ | refine ⟨_, _, _, rfl, ?_⟩ | refine ⟨_, _, _, _, rfl, ?_⟩))
local macro_rules
  | `(tactic| exists $u:ident, $n:ident, $H:ident, $q:ident, $e:ident) => `(tactic| (refine ⟨by first | exact Nat.zero_le _ | assumption | (simp only [List.length_cons, List.length_nil]; decide), fun $u $n => ?_⟩; generalize hh : upd _ $u _ = $H; obtain ⟨$q, $e⟩ := mkq $n hh; clear hh))
local macro_rules
  | `(tactic| simp_wf) => `(tactic| first | assumption | exact upd_same | (refine (by assumption : Same _ _) _ _ ?_; simp_wf) | (refine (by assumption : Kept _ _ _ _) _ _ ?_ (by assumption) (by assumption); simp_wf))
local macro_rules
  | `(tactic| decreasing_trivial) => `(tactic| first | assumption | exact .inl (.inl (by assumption)) | (refine sameT (by assumption) ?_; decreasing_trivial))
local macro_rules
  | `(tactic| array_get_dec) => `(tactic| first | assumption | (refine CdAt.same (by assumption) ?_; array_get_dec))
theorem val_mem {κ : Type} [DecidableEq κ] {kvs : List (κ × V)} {k : κ} {v : V} (h : valV kvs k = some v) : (k, v) ∈ kvs := by
  unfold valV at h
  obtain ⟨kv, e, rfl⟩ := Option.map_eq_some_iff.mp h
  have a := List.mem_of_find?_eq_some e
  have b : kv.1 = k := of_decide_eq_true (List.find?_some (p := fun kv : κ × V => decide (kv.1 = k)) e)
  rw [← b]
  exact a
/-- a table of lists that grow: R tells which list stands for each key -/
structure TabR {κ : Type} [DecidableEq κ] (mk : List (κ × V) → HO) (H H2 : Hp) (d : Addr) (M : Nat) (R : κ → List Nat) (kvs : List (κ × V)) : Prop where
  s : Same H H2
  nd : H d = none
  at_ : H2 d = some (mk kvs)
  len : kvs.length ≤ M
  val : ∀ k v, (k, v) ∈ kvs → ∃ b : Addr, v = .ref b ∧ H2 b = some (.lst (natsV (R k))) ∧ H b = none ∧ b ≠ d
  no : ∀ k, valV kvs k = none → R k = []
  lt : ∀ k, (R k).length ≤ M
  inj : ∀ k k2 (b : Addr), (k, V.ref b) ∈ kvs → (k2, V.ref b) ∈ kvs → k = k2
  uni : ∀ k v v2, (k, v) ∈ kvs → (k, v2) ∈ kvs → v = v2
/-- one more in the list of a key -/
def addR {κ : Type} [DecidableEq κ] (R : κ → List Nat) (k : κ) (g : Nat) : κ → List Nat := fun k2 => if k2 = k then R k ++ [g] else R k2
theorem val_none {κ : Type} [DecidableEq κ] {kvs : List (κ × V)} {k : κ} (h : valV kvs k = none) : ∀ v, (k, v) ∉ kvs := by
  intro v hv
  unfold valV at h
  rw [Option.map_eq_none_iff, List.find?_eq_none] at h
  exact h _ hv (decide_eq_true rfl)
section
variable {κ : Type} [DecidableEq κ] {mk : List (κ × V) → HO} {H H2 H3 : Hp} {d : Addr} {M : Nat} {R : κ → List Nat} {kvs : List (κ × V)}
theorem TabR.later (h : TabR mk H H2 d M R kvs) (s2 : Same H2 H3) : TabR mk H H3 d M R kvs := ⟨h.s.trans s2, h.nd, s2 _ _ h.at_, h.len, fun k v e => by
  obtain ⟨b, h1, h2, h3, h4⟩ := h.val k v e
  exact ⟨b, h1, s2 _ _ h2, h3, h4⟩, h.no, h.lt, h.inj, h.uni⟩
theorem addR_len (h : ∀ k, (R k).length ≤ M) (k : κ) (g : Nat) : ∀ k2, (addR R k g k2).length ≤ M + 1 := by
  intro k2
  unfold addR
  split
  · rw [List.length_append, List.length_singleton]
    exact Nat.succ_le_succ (h k)
  · exact Nat.le_succ_of_le (h k2)
theorem TabR.old {k : κ} {v : V} (g : Nat) (h : TabR mk H H2 d M R kvs) (e : valV kvs k = some v) : ∃ b : Addr, v = .ref b ∧ H2 b = some (.lst (natsV (R k))) ∧ (R k).length ≤ M ∧ TabR mk H (upd H2 b (.lst (natsV (R k) ++ [V.int (g : Int)]))) d (M + 1) (addR R k g) kvs := by
  have mem := val_mem e
  obtain ⟨b, h1, h2, h3, h4⟩ := h.val k v mem
  subst h1
  refine ⟨b, rfl, h2, h.lt k, same_upd_of h.s h3, h.nd, (upd_ne (Ne.symm h4)).trans h.at_, Nat.le_succ_of_le h.len, fun k2 v2 e2 => ?_, fun k2 e2 => ?_, addR_len h.lt k g, h.inj, h.uni⟩
  · obtain ⟨c, j1, j2, j3, j4⟩ := h.val k2 v2 e2
    subst j1
    refine ⟨c, rfl, ?_, j3, j4⟩
    unfold addR
    by_cases z : c = b
    · subst z
      obtain rfl := h.inj k k2 c mem e2
      rw [upd_same, if_pos rfl, natsV_app]
    · have kk : k2 ≠ k := fun y => by
        subst y
        have z2 := h.uni _ _ _ mem e2
        injection z2 with z2
        exact z z2.symm
      rw [upd_ne z, if_neg kk]
      exact j2
  · unfold addR
    have kk : k2 ≠ k := fun y => by
      rw [y, e] at e2
      exact nomatch e2
    rw [if_neg kk]
    exact h.no k2 e2
theorem TabR.new {k : κ} {e : Addr} (g : Nat) (h : TabR mk H H2 d M R kvs) (ek : valV kvs k = none) (ne : H e = none) (he : H2 e = some (.lst [])) (hed : e ≠ d) (out : ∀ k v, (k, v) ∈ kvs → v ≠ .ref e) :
    TabR mk H (upd (upd H2 d (mk (putK kvs k (.ref e)))) e (.lst ([] ++ [V.int (g : Int)]))) d (M + 1) (addR R k g) (putK kvs k (.ref e)) := by
  have n0 := h.no k ek
  have vn := val_none ek
  have kne : ∀ {k2 v2}, (k2, v2) ∈ kvs → k2 ≠ k := fun e2 y => vn _ (y ▸ e2)
  have mem : ∀ {k2 v2}, (k2, v2) ∈ putK kvs k (V.ref e) → (k2, v2) ∈ kvs ∨ (k2 = k ∧ v2 = .ref e) := fun e2 => by
    rw [putK_new _ ek] at e2
    rcases List.mem_append.mp e2 with y | y
    · exact .inl y
    · exact .inr (Prod.mk.inj (List.mem_singleton.mp y))
  refine ⟨same_upd_of (same_upd_of h.s h.nd) ne, h.nd, (upd_ne (Ne.symm hed)).trans upd_same, Nat.le_trans (length_putK _ _ _) (Nat.succ_le_succ h.len), fun k2 v2 e2 => ?_, fun k2 e2 => ?_, addR_len h.lt k g, fun k1 k2 b m1 m2 => ?_, fun k2 v1 v2 m1 m2 => ?_⟩
  · rcases mem e2 with y | ⟨rfl, rfl⟩
    · obtain ⟨c, j1, j2, j3, j4⟩ := h.val k2 v2 y
      have z : c ≠ e := fun z => out k2 v2 y (by rw [j1, z])
      refine ⟨c, j1, ?_, j3, j4⟩
      unfold addR
      rw [upd_ne z, upd_ne j4, if_neg (kne y)]
      exact j2
    · refine ⟨e, rfl, ?_, ne, hed⟩
      unfold addR
      rw [upd_same, if_pos rfl, n0]
      rfl
  · have kk : k2 ≠ k := fun y => by
      subst y
      have q : ∀ v, (k2, v) ∉ putK kvs k2 (V.ref e) := val_none e2
      rw [putK_new _ ek] at q
      exact q _ (List.mem_append.mpr (.inr (List.mem_singleton.mpr rfl)))
    unfold addR
    rw [if_neg kk]
    refine h.no k2 ?_
    cases y : valV kvs k2 with
    | none => rfl
    | some v =>
      have q := val_none e2 v
      rw [putK_new _ ek] at q
      exact absurd (List.mem_append.mpr (.inl (val_mem y))) q
  · rcases mem m1 with y | ⟨y1, y2⟩ <;> rcases mem m2 with u | ⟨u1, u2⟩
    · exact h.inj k1 k2 b y u
    · exact absurd u2 (out _ _ y)
    · exact absurd y2 (out _ _ u)
    · rw [y1, u1]
  · rcases mem m1 with y | ⟨y1, y2⟩ <;> rcases mem m2 with u | ⟨u1, u2⟩
    · exact h.uni k2 v1 v2 y u
    · exact absurd u1 (kne y)
    · exact absurd y1 (kne u)
    · rw [y2, u2]
/-- what is in the table stood there before a new cell was made -/
theorem TabR.out {e : Addr} (h : TabR mk H H2 d M R kvs) (ne : H2 e = none) : ∀ k v, (k, v) ∈ kvs → v ≠ .ref e := by
  intro k v ev z
  obtain ⟨b, h1, h2, _⟩ := h.val k v ev
  rw [h1] at z
  injection z with z
  rw [z, ne] at h2
  exact nomatch h2
end
theorem TabR.tabAt {H H2 : Hp} {d : Addr} {M : Nat} {R : Key → List Nat} {kvs : List (Key × V)} (h : TabR HO.dK H H2 d M R kvs) : TabAt H2 d R := ⟨kvs, h.at_, fun k => by
  cases e : valV kvs k with
  | none => exact .inl ⟨rfl, h.no k e⟩
  | some v =>
    obtain ⟨b, h1, h2, _⟩ := h.val k v (val_mem e)
    exact .inr ⟨b, congrArg some h1, h2⟩⟩
/-- the goals of a state; the states that lead to one -/
def fwdK (l : List Mv) : Key → List Nat := fun k => (l.filter fun m => decide (k = Sum.inl (m.1 : Int))).map (·.2.2)
def bwdK (l : List Mv) : Key → List Nat := fun k => (l.filter fun m => decide (k = Sum.inl (m.2.2 : Int))).map (·.1)
theorem fwd_add (l : List Mv) (m : Mv) : fwdK (l ++ [m]) = addR (fwdK l) (Sum.inl (m.1 : Int)) m.2.2 := by
  funext k
  unfold fwdK addR
  by_cases h : k = Sum.inl (m.1 : Int)
  · subst h
    simp
  · simp [h]
theorem bwd_add (l : List Mv) (m : Mv) : bwdK (l ++ [m]) = addR (bwdK l) (Sum.inl (m.2.2 : Int)) m.1 := by
  funext k
  unfold bwdK addR
  by_cases h : k = Sum.inl (m.2.2 : Int)
  · subst h
    simp
  · simp [h]
theorem fwd_lt {n : Nat} {l : List Mv} (ok : ∀ m ∈ l, OkM n m) : ∀ k, ∀ g ∈ fwdK l k, g < n := by
  intro k g hg
  obtain ⟨m, hm, rfl⟩ := List.mem_map.mp hg
  exact (ok m (List.mem_filter.mp hm).1).2.2
theorem bwd_lt {n : Nat} {l : List Mv} (ok : ∀ m ∈ l, OkM n m) : ∀ k, ∀ g ∈ bwdK l k, g < n := by
  intro k g hg
  obtain ⟨m, hm, rfl⟩ := List.mem_map.mp hg
  exact (ok m (List.mem_filter.mp hm).1).1
theorem mem_fwd {l : List Mv} {s g : Nat} : g ∈ fwdK l (Sum.inl (s : Int)) ↔ ∃ m ∈ l, m.1 = s ∧ m.2.2 = g := by
  unfold fwdK
  constructor
  · intro h
    obtain ⟨m, hm, e⟩ := List.mem_map.mp h
    obtain ⟨h1, h2⟩ := List.mem_filter.mp hm
    have h3 := of_decide_eq_true h2
    injection h3 with h3
    exact ⟨m, h1, by omega, e⟩
  · rintro ⟨m, h1, rfl, rfl⟩
    exact List.mem_map.mpr ⟨m, List.mem_filter.mpr ⟨h1, decide_eq_true rfl⟩, rfl⟩
theorem mem_bwd {l : List Mv} {s g : Nat} : s ∈ bwdK l (Sum.inl (g : Int)) ↔ ∃ m ∈ l, m.1 = s ∧ m.2.2 = g := by
  unfold bwdK
  constructor
  · intro h
    obtain ⟨m, hm, e⟩ := List.mem_map.mp h
    obtain ⟨h1, h2⟩ := List.mem_filter.mp hm
    have h3 := of_decide_eq_true h2
    injection h3 with h3
    exact ⟨m, h1, e, by omega⟩
  · rintro ⟨m, h1, rfl, rfl⟩
    exact List.mem_map.mpr ⟨m, List.mem_filter.mpr ⟨h1, decide_eq_true rfl⟩, rfl⟩
/-- a state to which words lead; one from which words lead to an end -/
def MetS (ms : List Mv) (s : Nat) : Prop := Rea (fwdK ms) [0] s
def LiveS (ms : List Mv) (es : List Nat) (s : Nat) : Prop := Rea (bwdK ms) es s
section
variable {P : Program} {w : World} {K : PySem.W.Frag} {mg : Str → Option Value} {base : Heap}
def spMet (K : PySem.W.Frag) : Sp := fun vs H Q _ => ∃ (a : Addr) (n : Nat) (ms : List Mv), vs = [.ref a] ∧ MvsAt K H a ms ∧ (∀ m ∈ ms, OkM n m) ∧ ms.length ≤ 5000 ∧ 1 ≤ n ∧ n ≤ 1000 ∧
  ∀ (p : Addr) (L : List Nat) (H2 : Hp), Same H H2 → H p = none → H2 p = some (.dK (trueD L)) → L.Nodup → (∀ x ∈ L, x < n) → (∀ x, x ∈ L ↔ MetS ms x) → Q (.ref p) H2
theorem fo_met {f f1 : Addr} {fd fd1 : FuncData} (F : Fun K "met_states" "met_states" s_met_states f fd) (F_reached : Fun K "reached" "reached" s_reached f1 fd1) (m_reached : mg "reached" = some (.ref f1)) (b_reached : Binds K fd1 ["starts", "table"] []) (T : Txt mg) : FnOk P w K mg base CX0 2 f fd ["moves"] (spMet K) := by
  have G_reached : FnOk P w K mg base CX0 1 f1 fd1 ["starts", "table"] (spReached K) := fo_reached F_reached T
  refine F.ok sc_met_states (fun vs H Q E h => ?_) (fun cdv A outer s H vs Q E hr h => ?_)
  · obtain ⟨a, n, ms, rfl, _⟩ := h
    rfl
  · obtain ⟨a, n, ms, rfl, hM, ok, hl, n0, n1, q⟩ := h
    have nd := sc_met_states.nd
    refine ⟨_, (pss_cons (ps_set (i := 1) nd rfl (Or.inl rfl) pe_dnewK)
      (pss_cons (ps_for PassesOwn.never rfl (pi_tup (pv 0)) (k_tg (K := K) (n := 3) rfl (pgs_cons (pg_name (i := 2) nd rfl (Or.inl rfl)) (pgs_cons (pg_name (i := 3) nd rfl (Or.inl rfl)) (pgs_cons (pg_name (i := 4) nd rfl (Or.inl rfl)) pgs_nil))))
        (pss_one (ps_expr (pe_bm PySem.F.plainAttrs_list PySem.F.slot_list_append PySem.F.type_list_append mt_append (pe_dsetd (pv 1) (pv 2) (pe_lst pa_nil) ⟨by rfl, by rfl, by rfl, by rfl⟩) (pa_cons (pv 4) pa_nil)))))
      (pss_one (ps_ret (pe_call G_reached (hr.mono (by decide)) (by rfl) m_reached F_reached.kp b_reached .nil pass0 (pa_cons (pe_lst (pa_cons pe_int pa_nil)) (pa_cons (pv 1) pa_nil))))))), ?_⟩
    refine fun d nd1 => ?_
    obtain ⟨ps, hT, lps, hms⟩ := hM
    refine ⟨_, rfl, a, rfl, ⟨_, sameT (same_new nd1) hT⟩, for_it (walk_tup (K := K) (a := a) (xs := ps.map V.ref)) (fun i σ HI => ∃ (y2 y3 y4 : Option V) (kvs : List (Key × V)), σ = [some (.ref a), some (.ref d), y2, y3, y4] ∧ TabR HO.dK H HI d i (fwdK (ms.take i)) kvs)
      ⟨none, none, none, [], rfl, same_new nd1, nd1, upd_same, Nat.le_refl _, (fun k v e => nomatch e), (fun k _ => rfl), (fun k => Nat.le_refl _), (fun k k2 b e => nomatch e), fun k v v2 e => nomatch e⟩ (fun i σ H2 _ h => by obtain ⟨_, _, _, _, _, h⟩ := h; exact sameT h.s hT) ?_ ?_⟩
    · rintro i x σ H2 H3 hi ⟨y2, y3, y4, kvs, rfl, tb⟩ ⟨rfl, hx⟩
      rw [List.length_map] at hi
      rw [List.getElem?_map] at hx
      obtain ⟨p, hp, rfl⟩ := Option.map_eq_some_iff.mp hx
      obtain ⟨m, gm, am⟩ := hms i p hp
      obtain ⟨o1, o2, o3⟩ := ok m (List.mem_of_getElem? gm)
      have etk : ms.take (i + 1) = ms.take i ++ [m] := by
        rw [List.take_add_one, gm]
        rfl
      rw [etk, fwd_add]
      refine ⟨p, _, rfl, sameT tb.s am, rfl, _, _, rfl, _, _, rfl, _, _, rfl, rfl, ?_⟩
      refine ⟨_, rfl, d, rfl, .inl ⟨_, .inl tb.at_⟩, _, rfl, by decide, fun e ne => ?_⟩
      have tb3 := tb.later (same_new (o := .lst []) ne)
      have out := tb.out ne
      have n0 := tb.s.free ne
      have he : upd H3 e (.lst []) e = some (.lst []) := upd_same
      have ed : e ≠ d := fun z => by
        rw [z, tb.at_] at ne
        exact nomatch ne
      have sl : kvs.length < sizeLine := Nat.lt_of_le_of_lt tb.len (Nat.lt_of_lt_of_le (show i < 5001 by omega) (by decide))
      generalize upd H3 e (.lst []) = H4 at tb3 he ⊢
      refine ⟨kvs, Sum.inl (m.1 : Int), tb3.at_, rfl, sl, fun v hv => ?_, fun hv => ?_⟩
      · obtain ⟨b, rfl, hb, lg, t5⟩ := tb3.old m.2.2 hv
        exact ⟨.inl ⟨rfl, _, SqL.of hb⟩, _, rfl, b, _, _, rfl, rfl, hb, Nat.lt_of_le_of_lt (by rw [natsV_len]; exact lg) (Nat.lt_of_lt_of_le (show i < 5001 by omega) (by decide)), _, _, _, kvs, rfl, t5⟩
      · have t5 := tb3.new m.2.2 hv n0 he ed out
        exact ⟨.inl ⟨rfl, _, SqL.of ((upd_ne ed).trans he)⟩, _, rfl, e, _, _, rfl, rfl, (upd_ne ed).trans he, by decide, _, _, _, _, rfl, t5⟩
    rintro σ H2 ⟨y2, y3, y4, kvs, rfl, tb⟩
    rw [List.length_map, lps, List.take_length] at tb
    refine ⟨by decide, fun c nc => ⟨_, rfl, c, d, [0], n, _, rfl, .inl (SqL.of upd_same), by simp, ?_, n1, tb.tabAt.same (same_new nc), fwd_lt ok, fun p L H3 s3 np => q p L H3 ((tb.s.trans (same_new nc)).trans s3) ((tb.s.trans (same_new nc)).free np)⟩⟩
    intro x hx
    rw [List.mem_singleton.mp hx]
    omega
def spLive (K : PySem.W.Frag) : Sp := fun vs H Q _ => ∃ (a ae : Addr) (n : Nat) (ms : List Mv) (es : List Nat), vs = [.ref a, .ref ae] ∧ MvsAt K H a ms ∧ SqT K H ae (natsV es) ∧ es.Nodup ∧ (∀ x ∈ es, x < n) ∧ (∀ m ∈ ms, OkM n m) ∧ ms.length ≤ 5000 ∧ 1 ≤ n ∧ n ≤ 1000 ∧
  ∀ (p : Addr) (L : List Nat) (H2 : Hp), Same H H2 → H p = none → H2 p = some (.dK (trueD L)) → L.Nodup → (∀ x ∈ L, x < n) → (∀ x, x ∈ L ↔ LiveS ms es x) → Q (.ref p) H2
theorem fo_live {f f1 : Addr} {fd fd1 : FuncData} (F : Fun K "live_states" "live_states" s_live_states f fd) (F_reached : Fun K "reached" "reached" s_reached f1 fd1) (m_reached : mg "reached" = some (.ref f1)) (b_reached : Binds K fd1 ["starts", "table"] []) (T : Txt mg) : FnOk P w K mg base CX0 2 f fd ["moves", "ends"] (spLive K) := by
  have G_reached : FnOk P w K mg base CX0 1 f1 fd1 ["starts", "table"] (spReached K) := fo_reached F_reached T
  refine F.ok sc_live_states (fun vs H Q E h => ?_) (fun cdv A outer s H vs Q E hr h => ?_)
  · obtain ⟨a, ae, n, ms, es, rfl, _⟩ := h
    rfl
  · obtain ⟨a, ae, n, ms, es, rfl, hM, hE, ndE, ltE, ok, hl, n0, n1, q⟩ := h
    have nd := sc_live_states.nd
    refine ⟨_, (pss_cons (ps_set (i := 2) nd rfl (Or.inl rfl) pe_dnewK)
      (pss_cons (ps_for PassesOwn.never rfl (pi_tup (pv 0)) (k_tg (K := K) (n := 3) rfl (pgs_cons (pg_name (i := 3) nd rfl (Or.inl rfl)) (pgs_cons (pg_name (i := 4) nd rfl (Or.inl rfl)) (pgs_cons (pg_name (i := 5) nd rfl (Or.inl rfl)) pgs_nil))))
        (pss_one (ps_expr (pe_bm PySem.F.plainAttrs_list PySem.F.slot_list_append PySem.F.type_list_append mt_append (pe_dsetd (pv 2) (pv 5) (pe_lst pa_nil) ⟨by rfl, by rfl, by rfl, by rfl⟩) (pa_cons (pv 3) pa_nil)))))
      (pss_one (ps_ret (pe_call G_reached (hr.mono (by decide)) (by rfl) m_reached F_reached.kp b_reached .nil pass0 (pa_cons (pv 1) (pa_cons (pv 2) pa_nil))))))), ?_⟩
    refine fun d nd1 => ?_
    obtain ⟨ps, hT, lps, hms⟩ := hM
    refine ⟨_, rfl, a, rfl, ⟨_, sameT (same_new nd1) hT⟩, for_it (walk_tup (K := K) (a := a) (xs := ps.map V.ref)) (fun i σ HI => ∃ (y2 y3 y4 : Option V) (kvs : List (Key × V)), σ = [some (.ref a), some (.ref ae), some (.ref d), y2, y3, y4] ∧ TabR HO.dK H HI d i (bwdK (ms.take i)) kvs)
      ⟨none, none, none, [], rfl, same_new nd1, nd1, upd_same, Nat.le_refl _, (fun k v e => nomatch e), (fun k _ => rfl), (fun k => Nat.le_refl _), (fun k k2 b e => nomatch e), fun k v v2 e => nomatch e⟩ (fun i σ H2 _ h => by obtain ⟨_, _, _, _, _, h⟩ := h; exact sameT h.s hT) ?_ ?_⟩
    · rintro i x σ H2 H3 hi ⟨y2, y3, y4, kvs, rfl, tb⟩ ⟨rfl, hx⟩
      rw [List.length_map] at hi
      rw [List.getElem?_map] at hx
      obtain ⟨p, hp, rfl⟩ := Option.map_eq_some_iff.mp hx
      obtain ⟨m, gm, am⟩ := hms i p hp
      obtain ⟨o1, o2, o3⟩ := ok m (List.mem_of_getElem? gm)
      have etk : ms.take (i + 1) = ms.take i ++ [m] := by
        rw [List.take_add_one, gm]
        rfl
      rw [etk, bwd_add]
      refine ⟨p, _, rfl, sameT tb.s am, rfl, _, _, rfl, _, _, rfl, _, _, rfl, rfl, ?_⟩
      refine ⟨_, rfl, d, rfl, .inl ⟨_, .inl tb.at_⟩, _, rfl, by decide, fun e ne => ?_⟩
      have tb3 := tb.later (same_new (o := .lst []) ne)
      have out := tb.out ne
      have n0 := tb.s.free ne
      have he : upd H3 e (.lst []) e = some (.lst []) := upd_same
      have ed : e ≠ d := fun z => by
        rw [z, tb.at_] at ne
        exact nomatch ne
      have sl : kvs.length < sizeLine := Nat.lt_of_le_of_lt tb.len (Nat.lt_of_lt_of_le (show i < 5001 by omega) (by decide))
      generalize upd H3 e (.lst []) = H4 at tb3 he ⊢
      refine ⟨kvs, Sum.inl (m.2.2 : Int), tb3.at_, rfl, sl, fun v hv => ?_, fun hv => ?_⟩
      · obtain ⟨b, rfl, hb, lg, t5⟩ := tb3.old m.1 hv
        exact ⟨.inl ⟨rfl, _, SqL.of hb⟩, _, rfl, b, _, _, rfl, rfl, hb, Nat.lt_of_le_of_lt (by rw [natsV_len]; exact lg) (Nat.lt_of_lt_of_le (show i < 5001 by omega) (by decide)), _, _, _, kvs, rfl, t5⟩
      · have t5 := tb3.new m.1 hv n0 he ed out
        exact ⟨.inl ⟨rfl, _, SqL.of ((upd_ne ed).trans he)⟩, _, rfl, e, _, _, rfl, rfl, (upd_ne ed).trans he, by decide, _, _, _, _, rfl, t5⟩
    rintro σ H2 ⟨y2, y3, y4, kvs, rfl, tb⟩
    rw [List.length_map, lps, List.take_length] at tb
    refine ⟨_, rfl, _, rfl, ae, d, es, n, _, rfl, .inr (sameT tb.s hE), ndE, ltE, n1, tb.tabAt, bwd_lt ok, fun p L H3 s3 np => q p L H3 (tb.s.trans s3) (tb.s.free np)⟩
end
end SG

/-! The useful states, the table of goals. -/
namespace SG
open PySem PySem.Spec PyProof.Rows L2
local macro_rules
  | `(tactic| clean_wf) => `(tactic| repeat (first | refine ⟨_, rfl, ?_⟩ | refine ⟨rfl, ?_⟩ | refine ⟨_, _, rfl, ?_⟩ | refine ⟨_, _, rfl, rfl, ?_⟩ | refine ⟨_, _, _, rfl, ?_⟩ | refine ⟨_, _, _, _, rfl, ?_⟩))
local macro_rules
  | `(tactic| exists $u:ident, $n:ident, $H:ident, $q:ident, $e:ident) => `(tactic| (refine ⟨by first | exact Nat.zero_le _ | assumption | (simp only [List.length_cons, List.length_nil]; decide), fun $u $n => ?_⟩; generalize hh : upd _ $u _ = $H; obtain ⟨$q, $e⟩ := mkq $n hh; clear hh))
local macro_rules
  | `(tactic| simp_wf) => `(tactic| first | assumption | exact upd_same | (refine (by assumption : Same _ _) _ _ ?_; simp_wf) | (refine (by assumption : Kept _ _ _ _) _ _ ?_ (by assumption) (by assumption); simp_wf))
local macro_rules
  | `(tactic| decreasing_trivial) => `(tactic| first | assumption | exact .inl (.inl (by assumption)) | (refine sameT (by assumption) ?_; decreasing_trivial))
local macro_rules
  | `(tactic| array_get_dec) => `(tactic| first | assumption | (refine CdAt.same (by assumption) ?_; array_get_dec))
theorem kept_eq (l : List Nat) (p : Nat → Bool) : (((List.range l.length).filter fun i => p (l.getD i 0)).map fun i => ((l.getD i 0 : Nat) : Int)) = (l.filter p).map fun n : Nat => (n : Int) := by
  have e : (List.range l.length).map (fun i => l.getD i 0) = l := by
    refine List.ext_getElem (by simp) fun i h1 h2 => ?_
    rw [List.getElem_map, List.getElem_range, List.getD_eq_getElem?_getD, List.getElem?_eq_getElem h2]
    rfl
  have z : (l.filter p) = ((List.range l.length).filter fun i => p (l.getD i 0)).map fun i => l.getD i 0 := by
    have := congrArg (List.filter p) e
    rw [List.filter_map] at this
    exact this.symm
  rw [z, List.map_map]
  rfl
theorem asc_nats {l : List Nat} {ns : List Int} (nd : l.Nodup) (pm : ns.Perm (l.map fun n : Nat => (n : Int))) (up : ns.Pairwise (· ≤ ·)) : ∃ us : List Nat, ns = us.map (fun n : Nat => (n : Int)) ∧ us.Pairwise (· < ·) ∧ ∀ x, x ∈ us ↔ x ∈ l := by
  have e : ns = (ns.map Int.toNat).map fun n : Nat => (n : Int) := by
    rw [List.map_map]
    have z : ns.map id = ns.map ((fun n : Nat => (n : Int)) ∘ Int.toNat) := List.map_congr_left fun z hz => by
      obtain ⟨m, _, rfl⟩ := List.mem_map.mp (pm.mem_iff.mp hz)
      rfl
    rwa [List.map_id] at z
  have pm2 : (ns.map Int.toNat).Perm l := by
    have z := pm.map Int.toNat
    rw [List.map_map] at z
    rwa [show (Int.toNat ∘ fun n : Nat => (n : Int)) = id from rfl, List.map_id] at z
  refine ⟨ns.map Int.toNat, e, ?_, fun x => pm2.mem_iff⟩
  have nd2 := pm2.nodup_iff.mpr nd
  have up2 : (ns.map Int.toNat).Pairwise (· ≤ ·) := by
    rw [List.pairwise_map]
    exact up.imp fun h => Int.toNat_le_toNat h
  exact (up2.and nd2).imp fun h => Nat.lt_of_le_of_ne h.1 h.2
section
variable {P : Program} {w : World} {K : PySem.W.Frag} {mg : Str → Option Value} {base : Heap}
def spUseful (K : PySem.W.Frag) : Sp := fun vs H Q _ => ∃ (a ae : Addr) (n : Nat) (ms : List Mv) (es : List Nat), vs = [.ref a, .ref ae] ∧ MvsAt K H a ms ∧ SqT K H ae (natsV es) ∧ es.Nodup ∧ (∀ x ∈ es, x < n) ∧ (∀ m ∈ ms, OkM n m) ∧ ms.length ≤ 5000 ∧ 1 ≤ n ∧ n ≤ 1000 ∧
  ∀ (p : Addr) (us : List Nat) (H2 : Hp), Same H H2 → SqT K H2 p (natsV us) → us.Pairwise (· < ·) → (∀ x, x ∈ us ↔ MetS ms x ∧ LiveS ms es x) → (∀ x ∈ us, x < n) → Q (.ref p) H2
theorem fo_useful {f f1 f2 f3 : Addr} {fd fd1 fd2 fd3 : FuncData} (F : Fun K "useful_states" "useful_states" s_useful_states f fd) (F_reached : Fun K "reached" "reached" s_reached f1 fd1) (m_reached : mg "reached" = some (.ref f1)) (b_reached : Binds K fd1 ["starts", "table"] [])
    (F_met_states : Fun K "met_states" "met_states" s_met_states f2 fd2) (m_met_states : mg "met_states" = some (.ref f2)) (b_met_states : Binds K fd2 ["moves"] []) (F_live_states : Fun K "live_states" "live_states" s_live_states f3 fd3) (m_live_states : mg "live_states" = some (.ref f3)) (b_live_states : Binds K fd3 ["moves", "ends"] []) (T : Txt mg) : FnOk P w K mg base CX0 3 f fd ["moves", "ends"] (spUseful K) := by
  have G_met_states : FnOk P w K mg base CX0 2 f2 fd2 ["moves"] (spMet K) := fo_met F_met_states F_reached m_reached b_reached T
  have G_live_states : FnOk P w K mg base CX0 2 f3 fd3 ["moves", "ends"] (spLive K) := fo_live F_live_states F_reached m_reached b_reached T
  refine F.ok sc_useful_states (fun vs H Q E h => ?_) (fun cdv A outer s H vs Q E hr h => ?_)
  · obtain ⟨a, ae, n, ms, es, rfl, _⟩ := h
    rfl
  · obtain ⟨a, ae, n, ms, es, rfl, hM, hE, ndE, ltE, ok, hl, n0, n1, q⟩ := h
    have nd := sc_useful_states.nd
    refine ⟨_, (pss_cons (ps_set (i := 2) nd rfl (Or.inr rfl) (pe_call G_live_states (hr.mono (by decide)) (by rfl) m_live_states F_live_states.kp b_live_states .nil pass0 (pa_cons (pv 0) (pa_cons (pv 1) pa_nil))))
      (pss_one (ps_ret (pe_callTy (k_tupOf (K := K)) (by rfl) T.tuple (by decide +kernel) (pa_cons (pe_callB (k_sortI (K := K)) (by rfl) T.sorted (by decide +kernel) (pa_cons (pe_lc (own := [("state", 3)]) rfl nd (pi_keysL (pe_call G_met_states (hr.mono (by decide)) (by rfl) m_met_states F_met_states.kp b_met_states .nil pass0 (pa_cons (pv 0) pa_nil))) (blkOk_by (N := N_useful_states) (sc := defScope s_useful_states) (by decide +kernel)) (fun _ _ _ _ _ => (pg_name (i := 3) nd rfl (Or.inl rfl))) (fun _ _ _ _ _ => (pts_one (pt_cmp (pc_din (hu_of hr) (pv 3) (pv 2))))) (fun _ _ _ _ _ => (pv 3))) pa_nil)) pa_nil))))), ?_⟩
    clean_wf
    refine ⟨a, ae, n, ms, es, rfl, hM, hE, ndE, ltE, ok, hl, n0, n1, fun p L H1 s1 np hp nL hL xL => ?_⟩
    clean_wf
    refine ⟨a, n, ms, rfl, hM.same s1, ok, hl, n0, n1, fun p2 L3 H2 s2 np2 hp2 nL2 hL2 xL3 => ?_⟩
    have l3 : L3.length ≤ n := nodup_len nL2 hL2
    refine ⟨p2, trueD L3, rfl, hp2, fun o D nD => ?_⟩
    have sp : Same H1 (upd H2 p2 (.frz o (.dK (trueD L3)))) := same_upd_of s2 np2
    refine lc_filW walk_keys (by unfold trueD; rw [List.length_map]; omega) nD (fun i => decide (L3.getD i 0 ∈ L)) (fun i => .int (L3.getD i 0 : Nat)) (fun H3 s3 => s3 _ _ upd_same) ?_ ?_
    · rintro i x H3 H4 hi s3 ⟨rfl, k, v, hk, rfl⟩ R N hR hN
      have hi2 : i < L3.length := by
        unfold trueD at hi
        rwa [List.length_map] at hi
      have ek : k = Sum.inl (L3.getD i 0 : Int) := by
        unfold trueD at hk
        rw [List.getElem?_map, List.getElem?_eq_getElem hi2] at hk
        have z := Option.some.inj hk
        rw [List.getD_eq_getElem?_getD, List.getElem?_eq_getElem hi2]
        exact ((Prod.mk.inj z).1).symm
      subst ek
      refine ⟨wipe1 _ _ _, ?_⟩
      refine ⟨_, rfl, _, rfl, p, _, rfl, DGet.k (k := Sum.inl (L3.getD i 0 : Int)) (s3 _ _ (sp _ _ hp)), ?_⟩
      rw [val_true]
      by_cases m : L3.getD i 0 ∈ L
      · refine ⟨_, rfl, ifT (decide_eq_true m) ?_⟩
        exact ⟨_, rfl, hR (decide_eq_true m) _ (Same.refl _)⟩
      · refine ⟨_, rfl, ifF (decide_eq_false m) ?_⟩
        exact hN (decide_eq_false m) _ (Same.refl _)
    intro H3 s3 hD
    rw [show (trueD L3).length = L3.length by unfold trueD; rw [List.length_map]] at hD
    rw [show ((List.range L3.length).filter fun i => decide (L3.getD i 0 ∈ L)).map (fun i => V.int (L3.getD i 0 : Nat)) = (((List.range L3.length).filter fun i => decide (L3.getD i 0 ∈ L)).map fun i => ((L3.getD i 0 : Nat) : Int)).map V.int from by rw [List.map_map]; rfl] at hD
    rw [kept_eq L3 fun x => decide (x ∈ L)] at hD
    refine ⟨D, _, rfl, SqL.of hD, fun ns' t pm up nt => ?_⟩
    obtain ⟨us, e, up2, mem⟩ := asc_nats (nL2.filter _) pm up
    rw [e]
    refine ⟨t, _, rfl, .inl ⟨SqL.of upd_same, fun z nz => q z us _ (((s1.trans sp).trans s3).trans ((same_new nt).trans (same_new nz))) ?_ up2 (fun x => ?_) (fun x hx => ?_)⟩⟩
    · refine .inl (.inl ?_)
      rw [upd_same]
      unfold natsV
      rw [List.map_map]
      rfl
    · rw [mem, List.mem_filter, decide_eq_true_eq, xL3, xL]
    · rw [mem, List.mem_filter] at hx
      exact hL2 x hx.1
end
end SG

/-! The table of goals. -/
namespace SG
open PySem PySem.Spec PyProof.Rows L2
local macro_rules
  | `(tactic| clean_wf) => `(tactic| repeat (first | refine ⟨_, rfl, ?_⟩ | refine ⟨rfl, ?_⟩ | refine ⟨_, _, rfl, ?_⟩ | refine ⟨_, _, rfl, rfl, ?_⟩ | refine ⟨_, _, _, rfl, ?_⟩ | refine ⟨_, _, _, _, rfl, ?_⟩))
local macro_rules
  | `(tactic| exists $u:ident, $n:ident, $H:ident, $q:ident, $e:ident) => `(tactic| (refine ⟨by first | exact Nat.zero_le _ | assumption | (simp only [List.length_cons, List.length_nil]; decide), fun $u $n => ?_⟩; generalize hh : upd _ $u _ = $H; obtain ⟨$q, $e⟩ := mkq $n hh; clear hh))
local macro_rules
  | `(tactic| simp_wf) => `(tactic| first | assumption | exact upd_same | (refine (by assumption : Same _ _) _ _ ?_; simp_wf) | (refine (by assumption : Kept _ _ _ _) _ _ ?_ (by assumption) (by assumption); simp_wf))
local macro_rules
  | `(tactic| decreasing_trivial) => `(tactic| first | assumption | exact .inl (.inl (by assumption)) | (refine sameT (by assumption) ?_; decreasing_trivial))
local macro_rules
  | `(tactic| array_get_dec) => `(tactic| first | assumption | (refine CdAt.same (by assumption) ?_; array_get_dec))
/-- a table of lists that grow -/
structure TabI {κ : Type} [DecidableEq κ] (mk : List (κ × V) → HO) (H H2 : Hp) (d : Addr) (n M : Nat) (kvs : List (κ × V)) : Prop where
  s : Same H H2
  nd : H d = none
  at_ : H2 d = some (mk kvs)
  len : kvs.length ≤ M
  val : ∀ k v, (k, v) ∈ kvs → ∃ (b : Addr) (gs : List Nat), v = .ref b ∧ H2 b = some (.lst (natsV gs)) ∧ H b = none ∧ b ≠ d ∧ (∀ g ∈ gs, g < n) ∧ gs.length ≤ M
section
variable {κ : Type} [DecidableEq κ] {mk : List (κ × V) → HO} {H H2 H3 : Hp} {d : Addr} {n M : Nat} {kvs : List (κ × V)}
theorem TabI.later (h : TabI mk H H2 d n M kvs) (s2 : Same H2 H3) : TabI mk H H3 d n M kvs := ⟨h.s.trans s2, h.nd, s2 _ _ h.at_, h.len, fun k v e => by
  obtain ⟨b, gs, h1, h2, h3, h4, h5, h6⟩ := h.val k v e
  exact ⟨b, gs, h1, s2 _ _ h2, h3, h4, h5, h6⟩⟩
theorem TabI.old {k : κ} {v : V} {g : Nat} (h : TabI mk H H2 d n M kvs) (e : valV kvs k = some v) (hg : g < n) : ∃ (b : Addr) (gs : List Nat), v = .ref b ∧ H2 b = some (.lst (natsV gs)) ∧ gs.length ≤ M ∧ TabI mk H (upd H2 b (.lst (natsV gs ++ [V.int (g : Int)]))) d n (M + 1) kvs := by
  obtain ⟨b, gs, h1, h2, h3, h4, h5, h6⟩ := h.val k v (val_mem e)
  refine ⟨b, gs, h1, h2, h6, same_upd_of h.s h3, h.nd, (upd_ne (Ne.symm h4)).trans h.at_, Nat.le_succ_of_le h.len, fun k2 v2 e2 => ?_⟩
  obtain ⟨c, fs, j1, j2, j3, j4, j5, j6⟩ := h.val k2 v2 e2
  by_cases z : c = b
  · subst z
    refine ⟨c, gs ++ [g], j1, by rw [upd_same, natsV_app], h3, h4, fun x hx => ?_, by rw [List.length_append, List.length_singleton]; omega⟩
    rcases List.mem_append.mp hx with y | y
    · exact h5 x y
    · rw [List.mem_singleton.mp y]
      exact hg
  · exact ⟨c, fs, j1, (upd_ne z).trans j2, j3, j4, j5, by omega⟩
theorem TabI.new {k : κ} {e : Addr} {g : Nat} (h : TabI mk H H2 d n M kvs) (ek : valV kvs k = none) (ne : H e = none) (he : H2 e = some (.lst [])) (hed : e ≠ d) (hg : g < n) (out : ∀ k v, (k, v) ∈ kvs → v ≠ .ref e) :
    TabI mk H (upd (upd H2 d (mk (putK kvs k (.ref e)))) e (.lst ([] ++ [V.int (g : Int)]))) d n (M + 1) (putK kvs k (.ref e)) := by
  refine ⟨same_upd_of (same_upd_of h.s h.nd) ne, h.nd, (upd_ne (Ne.symm hed)).trans upd_same, Nat.le_trans (length_putK _ _ _) (Nat.succ_le_succ h.len), fun k2 v2 e2 => ?_⟩
  rw [putK_new _ ek] at e2
  rcases List.mem_append.mp e2 with y | y
  · obtain ⟨c, fs, j1, j2, j3, j4, j5, j6⟩ := h.val k2 v2 y
    have z : c ≠ e := fun z => out k2 v2 y (by rw [j1, z])
    exact ⟨c, fs, j1, (upd_ne z).trans ((upd_ne j4).trans j2), j3, j4, j5, by omega⟩
  · obtain rfl := (Prod.mk.inj (List.mem_singleton.mp y)).2
    exact ⟨e, [g], rfl, upd_same, ne, hed, fun x hx => by rw [List.mem_singleton.mp hx]; exact hg, by simp⟩
/-- what is in the table stood there before a new cell was made -/
theorem TabI.out {e : Addr} (h : TabI mk H H2 d n M kvs) (ne : H2 e = none) : ∀ k v, (k, v) ∈ kvs → v ≠ .ref e := by
  intro k v ev z
  obtain ⟨b, gs, h1, h2, _⟩ := h.val k v ev
  rw [h1] at z
  injection z with z
  rw [z, ne] at h2
  exact nomatch h2
end
theorem any_it {o0 : Addr → HO} {J : It} {n : Nat} {G : Hp → Prop} {Y : Nat → Hp → V → Hp → Prop} (w : Walk J n G Y) {g : TG} {tt : TT} {st : L2.St → Hp → Addr → (Hp → Prop) → Prop} {vs : List Nat} {σ : L2.St} {H1 : Hp} {D : Addr} {Qd : Hp → Prop} (Pv : Nat → Hp → Prop) (h0 : Pv 0 (upd H1 D (o0 D))) (hG : ∀ i H, i ≤ n → Pv i H → G H)
    (hs : ∀ i x H H', i < n → Pv i H → Y i H x H' → g x (wipe σ vs) H' fun τ G3 => wipe τ vs = wipe σ vs ∧ tt τ G3 fun b G4 => if b = true then st τ G4 D (Pv (i + 1)) else Pv (i + 1) G4) (hd : ∀ H, Pv n H → Qd H) :
    ∃ W : Nat → Nat → Hp → Prop, (∃ m, W 0 m (upd H1 D (o0 D))) ∧ ∀ i m G1, W i m G1 → (J.stop i G1 ∧ Qd G1) ∨
      (J.go i G1 ∧ ∃ Nx : Hp → Prop, (∀ G', Nx G' → ∃ m', m' < m ∧ W (i + 1) m' G') ∧
        ∀ x G2, J.yld i G1 x G2 → g x (wipe σ vs) G2 fun τ G3 => wipe τ vs = wipe σ vs ∧ tt τ G3 fun b G4 => if b = true then st τ G4 D Nx else Nx G4) := by
  refine ⟨fun i m H => m = n - i ∧ i ≤ n ∧ Pv i H, ⟨n, by simp, Nat.zero_le _, h0⟩, ?_⟩
  rintro i m H ⟨rfl, hi, p⟩
  have q := hG i H hi p
  by_cases hlt : i < n
  · exact .inr ⟨w.goes i H hlt q, Pv (i + 1), fun H' p' => ⟨n - (i + 1), by omega, rfl, hlt, p'⟩, fun x H' y => hs i x H H' hlt p (w.yields i H x H' hlt q y)⟩
  · have e : i = n := by omega
    subst e
    exact .inl ⟨w.stops H q, hd H p⟩
section
variable {P : Program} {w : World} {K : PySem.W.Frag} {mg : Str → Option Value} {base : Heap}
def spGoals (K : PySem.W.Frag) : Sp := fun vs H Q _ => ∃ (a : Addr) (n : Nat) (ms : List Mv), vs = [.ref a] ∧ MvsAt K H a ms ∧ (∀ m ∈ ms, OkM n m) ∧ ms.length ≤ 5000 ∧
  ∀ (p : Addr) (H2 : Hp), Same H H2 → Q (.ref p) H2
theorem fo_goals {f : Addr} {fd : FuncData} (F : Fun K "goal_table" "goal_table" s_goal_table f fd) (T : Txt mg) : FnOk P w K mg base CX0 1 f fd ["moves"] (spGoals K) := by
  refine F.ok sc_goal_table (fun vs H Q E h => ?_) (fun cdv A outer s H vs Q E hr h => ?_)
  · obtain ⟨a, n, ms, rfl, _⟩ := h
    rfl
  · obtain ⟨a, n, ms, rfl, hM, ok, hl, q⟩ := h
    have nd := sc_goal_table.nd
    refine ⟨_, (pss_cons (ps_set (i := 1) nd rfl (Or.inl rfl) pe_dnewT)
      (pss_cons (ps_for PassesOwn.never rfl (pi_tup (pv 0)) (k_tg (K := K) (n := 3) rfl (pgs_cons (pg_name (i := 2) nd rfl (Or.inl rfl)) (pgs_cons (pg_name (i := 3) nd rfl (Or.inl rfl)) (pgs_cons (pg_name (i := 4) nd rfl (Or.inl rfl)) pgs_nil))))
        (pss_one (ps_expr (pe_bm PySem.F.plainAttrs_list PySem.F.slot_list_append PySem.F.type_list_append mt_append (pe_dsetdT (hu_of hr) (pv 1) (pe_tup (pa_cons (pv 2) (pa_cons (pv 3) pa_nil))) (pe_lst pa_nil) ⟨by rfl, by rfl, by rfl, by rfl⟩) (pa_cons (pv 4) pa_nil)))))
      (pss_one (ps_ret (pe_lock (pe_dcT (own := [("key", 5), ("goals", 6)]) (hu_of hr) rfl nd (pi_itemsT (pv 1)) (blkOk_by (N := N_goal_table) (sc := defScope s_goal_table) (by decide +kernel)) (fun _ _ _ _ _ => (k_tg (K := K) (n := 2) rfl (pgs_cons (pg_name (i := 5) nd rfl (Or.inl rfl)) (pgs_cons (pg_name (i := 6) nd rfl (Or.inl rfl)) pgs_nil)))) (fun _ _ _ _ _ => pts_nil) (fun _ _ _ _ _ => (pv 5)) (fun _ _ _ _ _ => (pe_callTy (k_tupOf (K := K)) (by rfl) T.tuple (by decide +kernel) (pa_cons (pv 6) pa_nil))))))))), ?_⟩
    refine fun d nd1 => ?_
    obtain ⟨ps, hT, lps, hms⟩ := hM
    refine ⟨_, rfl, a, rfl, ⟨_, sameT (same_new nd1) hT⟩, for_it (walk_tup (K := K) (a := a) (xs := ps.map V.ref)) (fun i σ HI => ∃ (y2 y3 y4 : Option V) (kvs : List (List Key × V)), σ = [some (.ref a), some (.ref d), y2, y3, y4, none, none] ∧ TabI HO.dT H HI d n i kvs)
      ⟨none, none, none, [], rfl, same_new nd1, nd1, upd_same, Nat.le_refl _, fun k v e => nomatch e⟩ (fun i σ H2 _ h => by obtain ⟨_, _, _, _, _, h⟩ := h; exact sameT h.s hT) ?_ ?_⟩
    · rintro i x σ H2 H3 hi ⟨y2, y3, y4, kvs, rfl, tb⟩ ⟨rfl, hx⟩
      rw [List.length_map] at hi
      rw [List.getElem?_map] at hx
      obtain ⟨p, hp, rfl⟩ := Option.map_eq_some_iff.mp hx
      obtain ⟨m, gm, am⟩ := hms i p hp
      obtain ⟨o1, o2, o3⟩ := ok m (List.mem_of_getElem? gm)
      refine ⟨p, _, rfl, sameT tb.s am, rfl, _, _, rfl, _, _, rfl, _, _, rfl, rfl, ?_⟩
      refine ⟨_, rfl, d, rfl, .inr ⟨_, .inl tb.at_⟩, _, rfl, _, rfl, (by show 2 ≤ sizeLine; decide), fun T nT => ⟨by decide, fun e ne => ?_⟩⟩
      have hTk : upd H3 T (.tup [V.int (m.1 : Int), V.str (sgn m.2.1)]) T = some (.tup [V.int (m.1 : Int), V.str (sgn m.2.1)]) := upd_same
      have tb2 := tb.later (same_new (o := .tup [V.int (m.1 : Int), V.str (sgn m.2.1)]) nT)
      generalize upd H3 T (.tup [V.int (m.1 : Int), V.str (sgn m.2.1)]) = H4 at hTk tb2 ne ⊢
      have tb3 := tb2.later (same_new (o := .lst []) ne)
      have out := tb2.out ne
      have n0 := tb2.s.free ne
      have he : upd H4 e (.lst []) e = some (.lst []) := upd_same
      have hTk3 : upd H4 e (.lst []) T = some (.tup [V.int (m.1 : Int), V.str (sgn m.2.1)]) := (upd_ne (ne_of_none hTk ne)).trans hTk
      have ed : e ≠ d := fun z => by
        rw [z, tb2.at_] at ne
        exact nomatch ne
      have sl : kvs.length < sizeLine := Nat.lt_of_le_of_lt tb.len (Nat.lt_of_lt_of_le (show i < 5001 by omega) (by decide))
      generalize upd H4 e (.lst []) = H5 at tb3 he hTk3 ⊢
      refine ⟨kvs, [Sum.inl (m.1 : Int), Sum.inr (sgn m.2.1)], T, tb3.at_, rfl, hTk3, sl, fun v hv => ?_, fun hv => ?_⟩
      · obtain ⟨b, gs, rfl, hb, lg, t5⟩ := tb3.old (g := m.2.2) hv o3
        exact ⟨.inl ⟨rfl, _, SqL.of hb⟩, _, rfl, b, _, _, rfl, rfl, hb, Nat.lt_of_le_of_lt (by rw [natsV_len]; exact lg) (Nat.lt_of_lt_of_le (show i < 5001 by omega) (by decide)), _, _, _, kvs, rfl, t5⟩
      · have t5 := tb3.new (g := m.2.2) hv n0 he ed o3 out
        exact ⟨.inl ⟨rfl, _, SqL.of ((upd_ne ed).trans he)⟩, _, rfl, e, _, _, rfl, rfl, (upd_ne ed).trans he, by decide, _, _, _, _, rfl, t5⟩
    rintro σ H2 ⟨y2, y3, y4, kvs, rfl, tb⟩
    refine ⟨d, .dT kvs, tb.at_, trivial, fun od => ⟨_, rfl, d, od, kvs, rfl, upd_same, fun D nD => ?_⟩⟩
    have hd0 : upd H2 d (.frz od (.dT kvs)) d = some (.frz od (.dT kvs)) := upd_same
    have s0 : Same H (upd H2 d (.frz od (.dT kvs))) := same_upd_of tb.s tb.nd
    have val : ∀ k v, (k, v) ∈ kvs → ∃ (b : Addr) (gs : List Nat), v = .ref b ∧ upd H2 d (.frz od (.dT kvs)) b = some (.lst (natsV gs)) := fun k v e => by
      obtain ⟨b, gs, h1, h2, h3, h4, _⟩ := tb.val k v e
      exact ⟨b, gs, h1, (upd_ne h4).trans h2⟩
    have kl := tb.len
    rw [List.length_map] at kl
    generalize upd H2 d (.frz od (.dT kvs)) = H4 at hd0 s0 val nD ⊢
    refine any_it (o0 := fun _ => .dT []) walk_itemsT (fun i HI => Same H4 HI ∧ ∃ kvs2, HI D = some (.dT kvs2) ∧ kvs2.length ≤ i) ⟨same_new nD, [], upd_same, Nat.le_refl _⟩ (fun i HI _ h => h.1 _ _ hd0) ?_ ?_
    · rintro i x H5 H6 hi ⟨s5, kvs2, hD, l2⟩ ⟨p, qa, k, v, hk, rfl, np, hq, rfl⟩
      obtain ⟨b, gs, rfl, hb⟩ := val k v (List.mem_of_getElem? hk)
      have s6 : Same H5 (upd H5 p (.tup [.ref qa, .ref b])) := same_new np
      refine ⟨p, _, rfl, .inl (.inl upd_same), rfl, _, _, rfl, _, _, rfl, rfl, wipe2 _ _ _ _ _, yesI ?_⟩
      refine ⟨_, rfl, _, rfl, b, _, rfl, .inl ⟨SqL.of (s6 _ _ (s5 _ _ hb)), fun z nz => ?_⟩⟩
      have s7 := s6.trans (same_new (o := .tup (natsV gs)) nz)
      refine ⟨kvs2, k, qa, rfl, s7 _ _ hq, s7 _ _ hD, Nat.lt_of_le_of_lt l2 (Nat.lt_of_lt_of_le (show i < 5001 by omega) (by decide)), same_upd_of (s5.trans s7) nD, _, upd_same, Nat.le_trans (length_putK _ _ _) (Nat.succ_le_succ l2)⟩
    rintro H5 ⟨s5, _⟩
    exact ⟨s5 _ _ hd0, q D _ (same_upd_of (s0.trans s5) tb.nd)⟩
end
end SG

/-! Several clauses `except C as e`, one name for all of them. -/
namespace SG
open PySem PySem.Spec PyProof.Rows L2
abbrev Suit := Addr → Value → Option Addr → TS
/-- the name is gone behind the clause -/
abbrev goneE (i : Nat) (D : Ends) : Ends := { nx := fun τ G => D.nx (τ.set i none) G, rt := D.rt, bk := fun τ G => D.bk (τ.set i none) G, ct := fun τ G => D.ct (τ.set i none) G }
/-- what the clauses wish of an exception, one after the other: slot i is the name's -/
def wAsM (K : PySem.W.Frag) (i : Nat) (Wo : WX) (D : Ends) : List (Value × Suit) → WX
  | [] => Wo
  | (k, ts) :: r => fun cls d τ G => ∃ b, PySem.W.exmOne K cls k = some b ∧ (b = true → ∀ a, G a = none → ts a cls d (goneE i D) (τ.set i (some (.ref a))) G) ∧ (b = false → wAsM K i Wo D r cls d τ G)
inductive HdsA (X : Cx) (n : Str) : List ExceptHandler → List (Value × Suit) → Prop
  | nil : HdsA X n [] []
  | cons {x : Str} {k : Value} {ts : Suit} {b0 : Stmt} {bs : List Stmt} {p1 p2 : Pos} {hs : List ExceptHandler} {l : List (Value × Suit)} (hk : Names X x k)
      (su : ∀ (a : Addr) (oe : Obj) (cls : Value) (d : Option Addr) (pn : List (Addr × Obj)), Zc cls d oe → (∃ vs, oe.data = .fields vs) → PSs (X.suite a ((a, oe) :: pn)) (b0 :: bs) (ts a cls d)) (r : HdsA X n hs l) :
      HdsA X n (.ExceptHandler (some (.Name x p1)) (some n) (b0 :: bs) p2 :: hs) ((k, ts) :: l)
section
variable {X : Cx} {n : Str} {i : Nat} {bd : List Stmt} {h0 : ExceptHandler} {hs : List ExceptHandler} {l : List (Value × Suit)} {pos : Pos} {tb : WX → TS} {Wo : WX}
theorem ps_try_asM (st : X.stack = X.env :: X.outer) (fr : X.env.frame = some X.env.locals) (nd : X.N.Nodup) (hi : X.N[i]? = some n) (kd : X.env.kindOf n = some .local) (tk : Takes X Wo)
    (hb : ∀ (W : WX) (pn : List (Addr × Obj)) (xe : Value → Shared → Prop), Takes (X.tr pn xe) W → PassesOwn (model X.prog X.w) X.A X.env xe → PSs (X.tr pn xe) bd (tb W)) (hh : HdsA X n (h0 :: hs) l) :
    PS X (.Try bd (h0 :: hs) [] [] pos) (fun D σ H => tb (wAsM X.K i Wo D l) D σ H) := by
  refine ⟨fun pins s σ H D I wish => ?_⟩
  have iok := I.ok
  have frames : X.A.frames = some (X.env :: X.outer) := iok.frames.trans (congrArg some st)
  have lc : Loc X.env.scope n := .inl kd
  refine wpAny_Try_except ?_
  refine wpAny_mono ((hb (wAsM X.K i Wo D l) (X.pn ++ pins) (fun e z => wpAny (model X.prog X.w) X.A (noteFrame e X.env)
    (fun _ z2 => wpAny (model X.prog X.w) X.A (setFlight e none) (fun _ z3 => wpAny (model X.prog X.w) X.A (handleBy e X.env (h0 :: hs)) (SP X pins D) X.xe z3) X.xe z2) X.xe z)
    (fun u s' caught => ?_) PassesOwn.looking).run [] s σ H D (I.toTry _) wish) (fun fl s1 went => ?_) (fun _ _ z => z)
  · obtain ⟨a, B, sI, _, τ, G, cls, d, rfl, J', nb, up, sky, na, os, ag, w⟩ := caught
    have J : Inv X pins τ G sI := J'.ofTry iok
    rw [st] at sky
    show wpAny (model X.prog X.w) X.A (noteFrame (.ref a) X.env) _ _ _
    refine Sky.land Zc.steady frames fr sky fun h3 fl3 up3 => ?_
    have up13 := up.trans up3
    have J3 : Inv X pins τ G { s' with heap := h3 } := J.landed nb fl3.1 up13 os ag
    obtain ⟨oe3, vs3, he3, hz3, hd3⟩ := fl3.there
    have apart : a ∉ frs (X.env :: X.outer) := fun hm => by
      obtain ⟨_, o2, e2, no⟩ := (fl3.2.2.1).mem hm
      cases he3.symm.trans e2
      exact no _ hd3
    have nL : a ≠ X.env.locals := fun z => apart (List.mem_filterMap.mpr ⟨X.env, List.mem_cons_self, fr.trans (congrArg some z.symm)⟩)
    have nF : a ∉ X.fs := fun hm => by
      obtain ⟨e, he, q⟩ := List.mem_filterMap.mp hm
      exact apart (List.mem_filterMap.mpr ⟨e, List.mem_cons_of_mem _ he, q⟩)
    have S3 := J3.suite he3 hd3 na nL nF
    have lt : PySem.W.Looks (model X.prog X.w) h3 (typeOf (.ref a)) cls := fun A Q E z k q => wpAny_typeOf_ref (k _ _ he3) (hz3.1.symm ▸ q)
    have go : ∀ {hs2 : List ExceptHandler} {l2 : List (Value × Suit)}, HdsA X n hs2 l2 → wAsM X.K i Wo D l2 cls d τ G → wpAny (model X.prog X.w) X.A (handleBy (.ref a) X.env hs2) (SP X pins D) X.xe { s' with heap := h3 } := by
      intro hs2 l2 hd2
      induction hd2 with
      | nil =>
        intro wn
        refine wpAny_handleBy_nil ?_
        obtain ⟨_, _, _, oe, vs, T, oT, ts2, he, hz, hdd, h1, hr⟩ := id fl3
        unfold PySem.passOn
        refine wpAny_bind (wpAny_field he hdd h1 ?_)
        rw [if_neg (by simp : ¬ ((Value.ref T == Value.none) = true))]
        have out : wpAny (model X.prog X.w) X.A (setFlight (.ref a) X.env.frame) (fun _ z4 => wpAny (model X.prog X.w) X.A (throw (.ref a) : Sem Flow) (SP X pins D) X.xe z4) X.xe { s' with heap := h3 } := by
          rw [fr]
          refine HandSPX.setFlight_upZ fl3 fun h4 hh4 up4 => wpAny_throw (tk _ _ ?_)
          refine ⟨a, B, sI, pins, τ, G, cls, d, rfl, J, nb, up13.trans up4, .inr (.inr ?_), na, os, ag, wn⟩
          rw [st]
          exact hh4
        first
          | exact wpAny_bind (wpAny_pure (wpAny_bind out))
          | exact wpAny_bind out
      | @cons x k ts b0 bs p1 p2 hs3 l3 hk su r ih =>
        intro wc
        obtain ⟨b, eb, yes, no⟩ := wc
        refine wpAny_handleBy_cons (codeAny_handlers_test ?_) (by intro q; cases q)
        have lm := PySem.W.exm_one (M := model X.prog X.w) (J3.kIn) lt eb
        have name : ∀ {Q : Value → Shared → Prop} {E : Value → Shared → Prop}, Q k { s' with heap := h3 } → wpAny (model X.prog X.w) (X.A.mark (some (.ref a))) (eval (.Name x p1) X.env) Q E { s' with heap := h3 } := fun {Q E} q => by
          obtain ⟨g1, g2, g3 | ⟨g3, g4, g5⟩⟩ := hk
          · exact ld_glob (X := X.suite a ((a, oe3) :: (X.pn ++ pins))) S3 g1 g3 q g2
          · exact ld_blt (X := X.suite a ((a, oe3) :: (X.pn ++ pins))) S3 g1 g3 g4 q g5 g2
        refine name (lm.here ?_)
        cases b with
        | false =>
          show wpAny _ X.A (handleBy (.ref a) X.env hs3) _ _ _
          exact ih (no rfl)
        | true =>
          refine codeAny_handlers_suite_as ?_
          refine HandSPX.lands_againZ fl3 fun h4 fl4 up4 => ?_
          have J4 : Inv X pins τ G { s' with heap := h4 } := J.landed nb fl4.1 (up13.trans up4) os ag
          obtain ⟨oe4, vs4, he4, hz4, hd4⟩ := fl4.there
          refine store_ok (X := X.suite a ((a, oe4) :: (X.pn ++ pins))) (v := .ref a) (J4.suite he4 hd4 na nL nF) nd hi lc rfl (fun s5 S5 => ?_) (.inr kd)
          refine wpAny_mono ((su a oe4 cls d (X.pn ++ pins) hz4 ⟨_, hd4⟩).run [] s5 _ G _ S5 (yes rfl a na)) (fun fl s6 went => ?_) (fun _ _ z => z.elim)
          have gone : ∀ {τ6 : L2.St} {G6 : Hp} {Q : Shared → Prop}, Inv (X.suite a ((a, oe4) :: (X.pn ++ pins))) [] τ6 G6 s6 → (∀ s7, Inv X pins (τ6.set i none) G6 s7 → Q s7) →
              wpAny (model X.prog X.w) X.A (do bindName X.env n .none; unbindBehindTheSuite X.env n p2) (fun _ s7 => Q s7) X.xe s6 := fun {τ6 G6 Q} S6 hq => gone_ok (S6.unsuite iok) nd hi kd hq
          cases fl with
          | ret u =>
            obtain ⟨v6, _, _, S6, r6, q6⟩ := went
            exact gone S6 fun _ J7 => ⟨_, _, _, J7, r6, q6⟩
          | next =>
            obtain ⟨_, _, S6, q6⟩ := went
            exact gone S6 fun _ J7 => ⟨_, _, J7, q6⟩
          | brk =>
            obtain ⟨_, _, S6, q6⟩ := went
            exact gone S6 fun _ J7 => ⟨_, _, J7, q6⟩
          | cont =>
            obtain ⟨_, _, S6, q6⟩ := went
            exact gone S6 fun _ J7 => ⟨_, _, J7, q6⟩
    exact go hh w
  · cases fl with
    | ret u =>
      obtain ⟨v, τ, G, J', r, q⟩ := went
      exact ⟨v, τ, G, J'.ofTry iok, r, q⟩
    | next =>
      obtain ⟨τ, G, J', q⟩ := went
      exact wpAny_execs_nil ⟨τ, G, J'.ofTry iok, q⟩
    | brk =>
      obtain ⟨τ, G, J', q⟩ := went
      exact ⟨τ, G, J'.ofTry iok, q⟩
    | cont =>
      obtain ⟨τ, G, J', q⟩ := went
      exact ⟨τ, G, J'.ofTry iok, q⟩
end
end SG

/-! Sheets are made. -/
namespace SG
open PySem PySem.Spec PyProof PyProof.Rows L2
local macro_rules
  | `(tactic| clean_wf) => `(tactic| repeat (first | refine ⟨_, rfl, ?_⟩ | refine ⟨rfl, ?_⟩ | refine ⟨_, _, rfl, ?_⟩ | refine ⟨_, _, rfl, rfl, ?_⟩ | refine ⟨_, _, _, rfl, ?_⟩ | refine ⟨_, _, _, _, rfl, ?_⟩))
local macro_rules
  | `(tactic| exists $u:ident, $n:ident, $H:ident, $q:ident, $e:ident) => `(tactic| (refine ⟨by first | exact Nat.zero_le _ | assumption | (simp only [List.length_cons, List.length_nil]; decide), fun $u $n => ?_⟩; generalize hh : upd _ $u _ = $H; obtain ⟨$q, $e⟩ := mkq $n hh; clear hh))
local macro_rules
  | `(tactic| simp_wf) => `(tactic| first | assumption | exact upd_same | (refine (by assumption : Same _ _) _ _ ?_; simp_wf) | (refine (by assumption : Kept _ _ _ _) _ _ ?_ (by assumption) (by assumption); simp_wf))
local macro_rules
  | `(tactic| decreasing_trivial) => `(tactic| first | assumption | exact .inl (.inl (by assumption)) | (refine sameT (by assumption) ?_; decreasing_trivial))
local macro_rules
  | `(tactic| array_get_dec) => `(tactic| first | assumption | (refine CdAt.same (by assumption) ?_; array_get_dec))
theorem ps_dead {X : Cx} {st : Stmt} : PS X st (fun _ _ _ => False) := ⟨fun _ _ _ _ _ _ h => h.elim⟩
theorem wipe2b (σ : L2.St) (s1 s2 : Nat) (x y z : Option V) : wipe ((((wipe σ [s1, s2]).set s1 x).set s2 y).set s1 z) [s1, s2] = wipe σ [s1, s2] := by
  show List.set (List.set (List.set (List.set (List.set (List.set (List.set σ s2 none) s1 none) s1 x) s2 y) s1 z) s2 none) s1 none = List.set (List.set σ s2 none) s1 none
  by_cases e : s1 = s2
  · subst e
    simp [List.set_set]
  · refine List.ext_getElem? fun i => ?_
    simp only [List.getElem?_set, List.length_set]
    split <;> split <;> rfl
theorem but_sqT {K : PySem.W.Frag} {d dx C : Addr} {H H2 : Hp} {fs : List (Str × V)} (k : But d H H2) (hd : H d = some (.ins C dx fs)) {a : Addr} {zs : List V} (h : SqT K H a zs) : SqT K H2 a zs := by
  rcases h with (h | ⟨o, h⟩) | h
  · exact .inl (.inl (k _ _ h (ne_of h hd nofun)))
  · exact .inl (.inr ⟨o, k _ _ h (ne_of h hd nofun)⟩)
  · exact .inr h
/-- all but the thing at a stay; what stands there -/
structure SelfAt (a C dx : Addr) (H H2 : Hp) (fs : List (Str × V)) : Prop where
  h0 : ∃ fs0, H a = some (.ins C dx fs0)
  k : But a H H2
  at_ : H2 a = some (.ins C dx fs)
section
variable {K : PySem.W.Frag} {a C dx : Addr} {H H2 H3 : Hp} {fs : List (Str × V)}
theorem SelfAt.init (h : H a = some (.ins C dx fs)) : SelfAt a C dx H H fs := ⟨⟨_, h⟩, fun _ _ h _ => h, h⟩
theorem SelfAt.later (S : SelfAt a C dx H H2 fs) (s : Same H2 H3) : SelfAt a C dx H H3 fs := ⟨S.h0, fun b o hb hn => s _ _ (S.k b o hb hn), s _ _ S.at_⟩
theorem SelfAt.put (S : SelfAt a C dx H H2 fs) (f : Str) (v : V) : SelfAt a C dx H (upd H2 a (.ins C dx (putF f v fs))) (putF f v fs) := ⟨S.h0, fun b o hb hn => by
  rw [upd_ne hn]
  exact S.k b o hb hn, upd_same⟩
theorem SelfAt.sq (S : SelfAt a C dx H H2 fs) {p : Addr} {zs : List V} (h : SqT K H p zs) : SqT K H2 p zs := by
  obtain ⟨fs0, h0⟩ := S.h0
  exact but_sqT S.k h0 h
theorem SelfAt.mvs (S : SelfAt a C dx H H2 fs) {p : Addr} {ms : List Mv} (h : MvsAt K H p ms) : MvsAt K H2 p ms := by
  obtain ⟨ps, h1, h2, h3⟩ := h
  refine ⟨ps, S.sq h1, h2, fun i p e => ?_⟩
  obtain ⟨m, g1, g2⟩ := h3 i p e
  exact ⟨m, g1, S.sq g2⟩
end
/-- where the classes and their methods stand -/
structure Ads where
  (cF cS cL cN cT fF fS fL fN fT ie stp led has lat lco lsh lwt lle lwo lpo : Addr)
/-- what the written part says of the classes -/
structure Own (K : PySem.W.Frag) (mg : Str → Option Value) (Z : Ads) : Prop where
  mFormat : mg "Format" = some (.ref Z.cF)
  mSheet : mg "Sheet" = some (.ref Z.cS)
  mLayers : mg "Layers" = some (.ref Z.cL)
  mNotIn : mg "NotIn" = some (.ref Z.cN)
  mTooLong : mg "TooLong" = some (.ref Z.cT)
  cl : Cls K Z.cF
  cS : Cls K Z.cS
  cL : Cls K Z.cL
  mkFormat : Mk K Z.cF Z.fF
  mkSheet : Mk K Z.cS Z.fS
  mkLayers : Mk K Z.cL Z.fL
  sa : ∀ n ∈ ["size", "moves", "ends", "letters", "_goals", "_ends"], NoAttr K Z.cS n
  fa : ∀ n ∈ ["size", "moves", "ends", "sheet", "letters", "useful", "_goals", "_ends"], NoAttr K Z.cF n
  la : ∀ n ∈ ["form", "goal_rows", "layers", "moves"], NoAttr K Z.cL n
  me_is_end : Meth K Z.cF "is_end" Z.ie
  me_step : Meth K Z.cF "step" Z.stp
  me_led : Meth K Z.cF "led" Z.led
  me_has : Meth K Z.cF "has" Z.has
  me_at : Meth K Z.cL "at" Z.lat
  me_count_of : Meth K Z.cL "count_of" Z.lco
  me_shorter : Meth K Z.cL "shorter" Z.lsh
  me_weights : Meth K Z.cL "weights" Z.lwt
  me_lesser : Meth K Z.cL "lesser" Z.lle
  me_word_of : Meth K Z.cL "word_of" Z.lwo
  me_place_of : Meth K Z.cL "place_of" Z.lpo
  xNotIn : OwnX K Z.cN
  iNotIn : PySem.W.findIn K (.ref Z.cN) "__init__" = some (some (.ref Z.fN))
  tNotIn : PySem.W.typeIn K (.ref Z.fN) = some (.type "function")
  nWord : PySem.W.findIn K (.ref Z.cN) "word" = some none
  rNotIn : XfC K Z.cN
  xTooLong : OwnX K Z.cT
  iTooLong : PySem.W.findIn K (.ref Z.cT) "__init__" = some (some (.ref Z.fT))
  tTooLong : PySem.W.typeIn K (.ref Z.fT) = some (.type "function")
  nMost : PySem.W.findIn K (.ref Z.cT) "most" = some none
  rTooLong : XfC K Z.cT
  eTT : PySem.W.exmOne K (.ref Z.cT) (.ref Z.cT) = some true
  eNT : PySem.W.exmOne K (.ref Z.cN) (.ref Z.cT) = some false
  eNN : PySem.W.exmOne K (.ref Z.cN) (.ref Z.cN) = some true
section
variable {P : Program} {w : World} {K : PySem.W.Frag} {mg : Str → Option Value} {base : Heap} {Z : Ads}
def spSheet (K : PySem.W.Frag) (C : Addr) : Sp := fun vs H Q _ => ∃ (a dx am ae : Addr) (n : Nat) (ms : List Mv) (es : List Nat), vs = [.ref a, .int n, .ref am, .ref ae] ∧ H a = some (.ins C dx []) ∧ MvsAt K H am ms ∧ SqT K H ae (natsV es) ∧ FmOk n ms es ∧
  ∀ (fs : List (Str × V)) (L : Str) (H2 : Hp), But a H H2 → H2 a = some (.ins C dx fs) → fs.lookup ("letters" : Str) = some (.str L) → Q .non H2
theorem fo_sheet {fd f1 f2 : Addr} {fd0 fd1 fd2 : FuncData} (F : Fun K "__init__" "Sheet.__init__" s_Sheet___init__ Z.fS fd0) (U : Own K mg Z)
    (m_wrong_part : mg "wrong_part" = some (.ref f1)) (b_wrong_part : Binds K fd1 ["size", "moves", "ends", "is_single"] []) (F_wrong_part : Fun K "wrong_part" "wrong_part" s_wrong_part f1 fd1) (G_wrong_part : FnOk P w K mg base CX0 5 f1 fd1 ["size", "moves", "ends", "is_single"] (spWrong K))
    (F_goal_table : Fun K "goal_table" "goal_table" s_goal_table f2 fd2) (m_goal_table : mg "goal_table" = some (.ref f2)) (b_goal_table : Binds K fd2 ["moves"] []) (T : Txt mg) : FnOk P w K mg base CX0 6 Z.fS fd0 ["self", "size", "moves", "ends"] (spSheet K Z.cS) := by
  have G_goal_table : FnOk P w K mg base CX0 1 f2 fd2 ["moves"] (spGoals K) := fo_goals F_goal_table T
  refine F.ok sc_Sheet___init__ (fun vs H Q E h => ?_) (fun cdv A outer s H vs Q E hr h => ?_)
  · obtain ⟨a, dx, am, ae, n, ms, es, rfl, _⟩ := h
    rfl
  · obtain ⟨a, dx, am, ae, n, ms, es, rfl, ha, hM, hE, O, q⟩ := h
    have nd := sc_Sheet___init__.nd
    refine ⟨_, (pss_cons (ps_set (i := 4) nd rfl (Or.inl rfl) (pe_call G_wrong_part (hr.mono (by decide)) (by rfl) m_wrong_part F_wrong_part.kp b_wrong_part .nil pass0 (pa_cons (pv 1) (pa_cons (pv 2) (pa_cons (pv 3) (pa_cons pe_bl pa_nil))))))
      (pss_cons (ps_if (pt_cmpR op_notN (pv 4) pe_non (nomark _)) (pss_one ps_dead) pss_nil)
      (pss_cons (ps_fld (pv 0) (pv 1) rfl)
      (pss_cons (ps_fld (pv 0) (pv 2) rfl)
      (pss_cons (ps_fld (pv 0) (pv 3) rfl)
      (pss_cons (ps_fld (pv 0) (k_join (K := K) pe_str (pe_callB (k_sortTx (P := P) (w := w) rfl) (by rfl) T.sorted (by decide +kernel) (pa_cons (pe_scTx (P := P) (w := w) (own := [("_", 5), ("letter", 6)]) rfl nd (pi_tup (pv 2)) (blkOk_by (N := N_Sheet___init__) (sc := defScope s_Sheet___init__) (by decide +kernel)) (fun _ _ _ _ _ => (k_tg (K := K) (n := 3) rfl (pgs_cons (pg_name (i := 5) nd rfl (Or.inl rfl)) (pgs_cons (pg_name (i := 6) nd rfl (Or.inl rfl)) (pgs_cons (pg_name (i := 5) nd rfl (Or.inl rfl)) pgs_nil))))) (fun _ _ _ _ _ => pts_nil) (fun _ _ _ _ _ => (pv 6))) pa_nil))) rfl)
      (pss_cons (ps_fld (pv 0) (pe_call G_goal_table (hr.mono (by decide)) (by rfl) m_goal_table F_goal_table.kp b_goal_table .nil pass0 (pa_cons (pv 2) pa_nil)) rfl)
      (pss_one (ps_fld (pv 0) (pe_dc (own := [("end", 7)]) rfl nd (pi_tup (pv 3)) (blkOk_by (N := N_Sheet___init__) (sc := defScope s_Sheet___init__) (by decide +kernel)) (fun _ _ _ _ _ => (pg_name (i := 7) nd rfl (Or.inl rfl))) (fun _ _ _ _ _ => pts_nil) (fun _ _ _ _ _ => (pv 7)) (fun _ _ _ _ _ => pe_bl)) rfl))))))))), ?_⟩
    clean_wf
    refine ⟨am, ae, n, ms, es, false, rfl, hM, hE, O, fun H1 s1 => ?_⟩
    clean_wf
    have S1 := (SelfAt.init ha).later s1
    refine ⟨a, Z.cS, dx, _, rfl, S1.at_, U.cS, U.sa _ (by simp), by decide, ?_⟩
    have S2 := S1.put "size" (V.int (n : Nat))
    clean_wf
    refine ⟨a, Z.cS, dx, _, rfl, S2.at_, U.cS, U.sa _ (by simp), by show 1 < 1000; decide, ?_⟩
    have S3 := S2.put "moves" (V.ref am)
    clean_wf
    refine ⟨a, Z.cS, dx, _, rfl, S3.at_, U.cS, U.sa _ (by simp), by show 2 < 1000; decide, ?_⟩
    have S4 := S3.put "ends" (V.ref ae)
    have hM4 := S4.mvs hM
    obtain ⟨ps, hT, lps, hms⟩ := hM4
    have hM4 := S4.mvs hM
    generalize upd (upd (upd H1 a _) a _) a _ = H4 at S4 hT hms hM4 ⊢
    refine ⟨⟨_, rfl⟩, _, rfl, am, rfl, ⟨_, hT⟩, fun D nD => ?_⟩
    refine any_it (o0 := fun D => SetO2 P w D []) (walk_tup (K := K) (a := am) (xs := ps.map V.ref)) (fun i HI => Same H4 HI ∧ ∃ l : List Str, HI D = some (SetO2 P w D l) ∧ l.length ≤ i ∧ ∀ z ∈ l, z.length = 1) ⟨same_new nD, [], upd_same, Nat.le_refl _, fun z hz => nomatch hz⟩ (fun i HI _ h => sameT h.1 hT) ?_ ?_
    · rintro i x H5 H6 hi ⟨s5, l, hD, l2, l3⟩ ⟨rfl, hx⟩
      rw [List.length_map, lps] at hi
      rw [List.getElem?_map] at hx
      obtain ⟨p, hp, rfl⟩ := Option.map_eq_some_iff.mp hx
      obtain ⟨m, gm, am2⟩ := hms i p hp
      have ml := O.ml
      refine ⟨p, _, rfl, sameT s5 am2, rfl, _, _, rfl, _, _, rfl, _, _, rfl, rfl, wipe2b _ _ _ _ _ _, yesI ?_⟩
      refine ⟨_, rfl, sgn m.2.1, l, rfl, hD, by omega, same_upd_of s5 nD, _, upd_same, ?_, ?_⟩
      · split
        · omega
        · rw [List.length_cons]; omega
      · intro z hz
        split at hz
        · exact l3 z hz
        · rcases List.mem_cons.mp hz with e | e
          · rw [e]; rfl
          · exact l3 z e
    rintro H5 ⟨s5, l, hD, l2, l3⟩
    rw [List.length_map, lps] at l2
    refine ⟨D, l, rfl, hD, fun m pl pm _ npl => ?_⟩
    have s6 := s5.trans (same_new (o := .lst (m.map V.str)) npl)
    refine ⟨_, pl, m, rfl, rfl, .inl (SqL.of upd_same), ?_, ?_⟩
    · have e : m.map (·.length) = m.map (fun _ => 1) := List.map_congr_left fun z hz => l3 z (pm.mem_iff.mp hz)
      have ml := O.ml
      have e2 := pm.length_eq
      rw [e, List.map_const', List.sum_replicate_nat, show (Str.ofString "").length = 0 from rfl]
      omega
    have S5 := S4.later s6
    refine ⟨_, rfl, a, Z.cS, dx, _, rfl, S5.at_, U.cS, U.sa _ (by simp), by show 3 < 1000; decide, ?_⟩
    have S6 := S5.put "letters" (V.str (Txt.join (Str.ofString "") m))
    clean_wf
    have hM6 := S6.mvs hM
    generalize upd (upd H5 pl _) a _ = H6 at S6 hM6 ⊢
    refine ⟨am, n, ms, rfl, hM6, O.ok, Nat.le_trans O.ml (by decide), fun pg H7 s7 => ?_⟩
    have S7 := S6.later s7
    refine ⟨_, rfl, a, Z.cS, dx, _, rfl, S7.at_, U.cS, U.sa _ (by simp), by show 4 < 1000; decide, ?_⟩
    have S8 := S7.put "_goals" (V.ref pg)
    clean_wf
    have hE8 := S8.sq hE
    generalize upd H7 a _ = H8 at S8 hE8 ⊢
    refine ⟨⟨_, hE8⟩, fun De nDe => ?_⟩
    refine dc_true (walk_tup (K := K) (a := ae) (xs := natsV es)) (fun H9 s9 => sameT s9 hE8) (O.upE.imp Nat.ne_of_lt) (by show 7 < 8; decide) (Nat.le_trans O.el (by decide)) nDe fun H9 s9 h9 => ?_
    have S9 := S8.later s9
    refine ⟨_, rfl, a, Z.cS, dx, _, rfl, S9.at_, U.cS, U.sa _ (by simp), by show 5 < 1000; decide, ?_⟩
    have S10 := S9.put "_ends" (V.ref De)
    exact q _ _ _ S10.k S10.at_ (by rw [lookup_putF, if_neg (by decide +kernel), lookup_putF, if_neg (by decide +kernel), lookup_putF, if_pos rfl])
end
end SG

/-! Formats are made. -/
namespace SG
open PySem PySem.Spec PyProof PyProof.Rows L2
local macro_rules
  | `(tactic| clean_wf) => `(tactic| repeat (first | refine ⟨_, rfl, ?_⟩ | refine ⟨rfl, ?_⟩ | refine ⟨_, _, rfl, ?_⟩ | refine ⟨_, _, rfl, rfl, ?_⟩ | refine ⟨_, _, _, rfl, ?_⟩ | refine ⟨_, _, _, _, rfl, ?_⟩))
local macro_rules
  | `(tactic| exists $u:ident, $n:ident, $H:ident, $q:ident, $e:ident) => `(tactic| (refine ⟨by first | exact Nat.zero_le _ | assumption | (simp only [List.length_cons, List.length_nil]; decide), fun $u $n => ?_⟩; generalize hh : upd _ $u _ = $H; obtain ⟨$q, $e⟩ := mkq $n hh; clear hh))
local macro_rules
  | `(tactic| simp_wf) => `(tactic| first | assumption | exact upd_same | (refine (by assumption : Same _ _) _ _ ?_; simp_wf) | (refine (by assumption : Kept _ _ _ _) _ _ ?_ (by assumption) (by assumption); simp_wf))
local macro_rules
  | `(tactic| decreasing_trivial) => `(tactic| first | assumption | exact .inl (.inl (by assumption)) | (refine sameT (by assumption) ?_; decreasing_trivial))
local macro_rules
  | `(tactic| array_get_dec) => `(tactic| first | assumption | (refine CdAt.same (by assumption) ?_; array_get_dec))
theorem wipe3b (σ : L2.St) (s1 s2 s3 : Nat) (x y z : Option V) : wipe ((((wipe σ [s1, s2, s3]).set s1 x).set s2 y).set s3 z) [s1, s2, s3] = wipe σ [s1, s2, s3] := by
  show List.set (List.set (List.set (List.set (List.set (List.set (List.set (List.set (List.set σ s3 none) s2 none) s1 none) s1 x) s2 y) s3 z) s3 none) s2 none) s1 none = List.set (List.set (List.set σ s3 none) s2 none) s1 none
  refine List.ext_getElem? fun i => ?_
  simp only [List.getElem?_set, List.length_set]
  repeat' split
  all_goals rfl
/-- where a move leads -/
def nxt (ms : List Mv) (s g : Nat) : Option Nat := (ms.find? fun m => decide (m.1 = s) && decide (m.2.1 = g)).map (·.2.2)
theorem nxt_some {ms : List Mv} {s g t : Nat} (h : nxt ms s g = some t) : (s, g, t) ∈ ms := by
  unfold nxt at h
  obtain ⟨m, e, rfl⟩ := Option.map_eq_some_iff.mp h
  have a := List.mem_of_find?_eq_some e
  have b := List.find?_some (p := fun m : Mv => decide (m.1 = s) && decide (m.2.1 = g)) e
  rw [Bool.and_eq_true, decide_eq_true_eq, decide_eq_true_eq] at b
  obtain ⟨rfl, rfl⟩ := b
  exact a
theorem nxt_none {ms : List Mv} {s g : Nat} (h : nxt ms s g = none) : ∀ t, (s, g, t) ∉ ms := by
  intro t ht
  unfold nxt at h
  rw [Option.map_eq_none_iff, List.find?_eq_none] at h
  exact h _ ht (by simp)
/-- each move's state and letter are its own -/
def Sng (ms : List Mv) : Prop := ∀ a ∈ ms, ∀ b ∈ ms, a.1 = b.1 → a.2.1 = b.2.1 → a = b
theorem lat_trans {a b c : Mv} (h1 : Lat a b) (h2 : Lat b c) : Lat a c := by
  unfold Lat at *
  omega
theorem lat_ne {a : Mv} : ¬ Lat a a := by
  unfold Lat
  omega
theorem pw_lat : ∀ {ms : List Mv}, (∀ i x y, ms[i]? = some x → ms[i + 1]? = some y → Lat x y) → ms.Pairwise Lat
  | [], _ => .nil
  | [a], _ => List.pairwise_singleton _ _
  | a :: b :: l, h => by
    have ih : (b :: l).Pairwise Lat := pw_lat fun i x y hx hy => h (i + 1) x y hx hy
    have hab := h 0 a b rfl rfl
    refine List.Pairwise.cons (fun x hx => ?_) ih
    rcases List.mem_cons.mp hx with rfl | hx
    · exact hab
    · exact lat_trans hab ((List.pairwise_cons.mp ih).1 x hx)
theorem sng_pw {ms : List Mv} (h : ms.Pairwise Lat) : Sng ms := by
  intro a ha b hb e1 e2
  obtain ⟨i, hi, rfl⟩ := List.getElem_of_mem ha
  obtain ⟨j, hj, rfl⟩ := List.getElem_of_mem hb
  have z := List.pairwise_iff_getElem.mp h
  rcases Nat.lt_trichotomy i j with k | k | k
  · have := z i j hi hj k
    unfold Lat at this
    omega
  · subst k; rfl
  · have := z j i hj hi k
    unfold Lat at this
    omega
theorem nxt_mem {ms : List Mv} (S : Sng ms) {m : Mv} (h : m ∈ ms) : nxt ms m.1 m.2.1 = some m.2.2 := by
  cases e : nxt ms m.1 m.2.1 with
  | none => exact absurd h (nxt_none e m.2.2)
  | some t => rw [← S _ (nxt_some e) m h rfl rfl]
theorem nxt_add {l : List Mv} {m : Mv} (h : nxt l m.1 m.2.1 = none) (s g : Nat) : nxt (l ++ [m]) s g = if m.1 = s ∧ m.2.1 = g then some m.2.2 else nxt l s g := by
  unfold nxt at h ⊢
  rw [List.find?_append]
  by_cases c : m.1 = s ∧ m.2.1 = g
  · obtain ⟨rfl, rfl⟩ := c
    rw [Option.map_eq_none_iff] at h
    rw [h, if_pos ⟨rfl, rfl⟩]
    simp
  · rw [if_neg c]
    have : [m].find? (fun m => decide (m.1 = s) && decide (m.2.1 = g)) = none := by
      simp only [List.find?_cons, List.find?_nil]
      have z : (decide (m.1 = s) && decide (m.2.1 = g)) = false := by
        rw [← Bool.not_eq_true, Bool.and_eq_true, decide_eq_true_eq, decide_eq_true_eq]
        exact c
      rw [z]
    rw [this, Option.or_none]
/-- the useful states -/
structure UsOk (n : Nat) (ms : List Mv) (es us : List Nat) : Prop where
  up : us.Pairwise (· < ·)
  is : ∀ x, x ∈ us ↔ MetS ms x ∧ LiveS ms es x
  lt : ∀ x ∈ us, x < n
/-- the useful states and the table of goals of a format -/
def FmX (K : PySem.W.Frag) (H : Hp) (fs : List (Str × V)) (n : Nat) (ms : List Mv) (es : List Nat) : Prop := ∃ (dg au : Addr) (us : List Nat) (kvs : List (List Key × V)), fs.lookup ("_goals" : Str) = some (.ref dg) ∧ fs.lookup ("useful" : Str) = some (.ref au) ∧
  H dg = some (.dT kvs) ∧ (∀ s g : Nat, valV kvs [Sum.inl (s : Int), Sum.inr (sgn g)] = (nxt ms s g).map fun t : Nat => V.int (t : Int)) ∧ SqT K H au (natsV us) ∧ UsOk n ms es us
theorem FmX.same {K : PySem.W.Frag} {H H2 : Hp} {fs : List (Str × V)} {n : Nat} {ms : List Mv} {es : List Nat} (s : Same H H2) (h : FmX K H fs n ms es) : FmX K H2 fs n ms es := by
  obtain ⟨dg, au, us, kvs, h1, h2, h3, h4, h5, h6⟩ := h
  exact ⟨dg, au, us, kvs, h1, h2, s _ _ h3, h4, sameT s h5, h6⟩
/-- a format stands at a -/
def FmAt (K : PySem.W.Frag) (C : Addr) (H : Hp) (a : Addr) (n : Nat) (ms : List Mv) (es : List Nat) : Prop := FmOk n ms es ∧ ∃ (dx am ae de : Addr) (fs : List (Str × V)), H a = some (.ins C dx fs) ∧ fs.lookup ("size" : Str) = some (.int n) ∧ fs.lookup ("moves" : Str) = some (.ref am) ∧ fs.lookup ("ends" : Str) = some (.ref ae) ∧
  fs.lookup ("_ends" : Str) = some (.ref de) ∧ MvsAt K H am ms ∧ SqT K H ae (natsV es) ∧ H de = some (.dK (trueD es)) ∧ FmX K H fs n ms es ∧ ∀ m ∈ (["is_end", "step", "led", "has"] : List Str), fs.lookup m = none
theorem FmAt.same {K : PySem.W.Frag} {C : Addr} {H H2 : Hp} {a : Addr} {n : Nat} {ms : List Mv} {es : List Nat} (s : Same H H2) (h : FmAt K C H a n ms es) : FmAt K C H2 a n ms es := by
  obtain ⟨O, dx, am, ae, de, fs, h1, h2, h3, h4, h5, h6, h7, h8, hx, h9⟩ := h
  exact ⟨O, dx, am, ae, de, fs, s _ _ h1, h2, h3, h4, h5, h6.same s, sameT s h7, s _ _ h8, hx.same s, h9⟩
section
variable {P : Program} {w : World} {K : PySem.W.Frag} {mg : Str → Option Value} {base : Heap} {Z : Ads}
def spForm (K : PySem.W.Frag) (C : Addr) : Sp := fun vs H Q _ => ∃ (a dx am ae : Addr) (n : Nat) (ms : List Mv) (es : List Nat), vs = [.ref a, .int n, .ref am, .ref ae] ∧ H a = some (.ins C dx []) ∧ MvsAt K H am ms ∧ SqT K H ae (natsV es) ∧ FmOk n ms es ∧
  ∀ (H2 : Hp), But a H H2 → FmAt K C H2 a n ms es → Q .non H2
theorem fo_form {fd f1 f2 f3 : Addr} {fd0 fd1 fd2 fd3 : FuncData} (F : Fun K "__init__" "Format.__init__" s_Format___init__ Z.fF fd0) (U : Own K mg Z)
    (m_wrong_part : mg "wrong_part" = some (.ref f1)) (b_wrong_part : Binds K fd1 ["size", "moves", "ends", "is_single"] []) (F_wrong_part : Fun K "wrong_part" "wrong_part" s_wrong_part f1 fd1) (G_wrong_part : FnOk P w K mg base CX0 5 f1 fd1 ["size", "moves", "ends", "is_single"] (spWrong K))
    (F_useful_states : Fun K "useful_states" "useful_states" s_useful_states f2 fd2) (m_useful_states : mg "useful_states" = some (.ref f2)) (b_useful_states : Binds K fd2 ["moves", "ends"] []) (G_useful_states : FnOk P w K mg base CX0 3 f2 fd2 ["moves", "ends"] (spUseful K))
    (F_Sheet___init__ : Fun K "__init__" "Sheet.__init__" s_Sheet___init__ Z.fS fd3) (b_Sheet___init__ : Binds K fd3 ["self", "size", "moves", "ends"] []) (G_Sheet___init__ : FnOk P w K mg base CX0 6 Z.fS fd3 ["self", "size", "moves", "ends"] (spSheet K Z.cS)) (T : Txt mg) :
    FnOk P w K mg base CX0 8 Z.fF fd0 ["self", "size", "moves", "ends"] (spForm K Z.cF) := by
  refine F.ok sc_Format___init__ (fun vs H Q E h => ?_) (fun cdv A outer s H vs Q E hr h => ?_)
  · obtain ⟨a, dx, am, ae, n, ms, es, rfl, _⟩ := h
    rfl
  · obtain ⟨a, dx, am, ae, n, ms, es, rfl, ha, hM, hE, O, q⟩ := h
    have nd := sc_Format___init__.nd
    refine ⟨_, (pss_cons (ps_set (i := 4) nd rfl (Or.inl rfl) (pe_call G_wrong_part (hr.mono (by decide)) (by rfl) m_wrong_part F_wrong_part.kp b_wrong_part .nil pass0 (pa_cons (pv 1) (pa_cons (pv 2) (pa_cons (pv 3) (pa_cons pe_bl pa_nil))))))
      (pss_cons (ps_if (pt_cmpR op_notN (pv 4) pe_non (nomark _)) (pss_one ps_dead) pss_nil)
      (pss_cons (ps_fld (pv 0) (pv 1) rfl)
      (pss_cons (ps_fld (pv 0) (pv 2) rfl)
      (pss_cons (ps_fld (pv 0) (pv 3) rfl)
      (pss_cons (ps_fld (pv 0) (pe_make (E := E0) U.mkSheet G_Sheet___init__ (hr.mono (by decide)) (by rfl) U.mSheet b_Sheet___init__ .nil pass0 (pa_cons (pv 1) (pa_cons (pv 2) (pa_cons (pv 3) pa_nil)))) rfl)
      (pss_cons (ps_fld (pv 0) (k_fld (K := K) (k_fld (K := K) (pv 0))) rfl)
      (pss_cons (ps_fld (pv 0) (pe_call G_useful_states (hr.mono (by decide)) (by rfl) m_useful_states F_useful_states.kp b_useful_states .nil pass0 (pa_cons (pv 2) (pa_cons (pv 3) pa_nil))) rfl)
      (pss_cons (ps_fld (pv 0) (pe_dcT (own := [("state", 5), ("letter", 6), ("goal", 7)]) (hu_of hr) rfl nd (pi_tup (pv 2)) (blkOk_by (N := N_Format___init__) (sc := defScope s_Format___init__) (by decide +kernel)) (fun _ _ _ _ _ => (k_tg (K := K) (n := 3) rfl (pgs_cons (pg_name (i := 5) nd rfl (Or.inl rfl)) (pgs_cons (pg_name (i := 6) nd rfl (Or.inl rfl)) (pgs_cons (pg_name (i := 7) nd rfl (Or.inl rfl)) pgs_nil))))) (fun _ _ _ _ _ => pts_nil) (fun _ _ _ _ _ => (pe_tup (pa_cons (pv 5) (pa_cons (pv 6) pa_nil)))) (fun _ _ _ _ _ => (pv 7))) rfl)
      (pss_one (ps_fld (pv 0) (pe_dc (own := [("end", 8)]) rfl nd (pi_tup (pv 3)) (blkOk_by (N := N_Format___init__) (sc := defScope s_Format___init__) (by decide +kernel)) (fun _ _ _ _ _ => (pg_name (i := 8) nd rfl (Or.inl rfl))) (fun _ _ _ _ _ => pts_nil) (fun _ _ _ _ _ => (pv 8)) (fun _ _ _ _ _ => pe_bl)) rfl))))))))))), ?_⟩
    clean_wf
    refine ⟨am, ae, n, ms, es, true, rfl, hM, hE, O, fun H1 s1 => ?_⟩
    clean_wf
    have S1 := (SelfAt.init ha).later s1
    refine ⟨a, Z.cF, dx, _, rfl, S1.at_, U.cl, U.fa _ (by simp), by decide, ?_⟩
    have S2 := S1.put "size" (V.int (n : Nat))
    clean_wf
    refine ⟨a, Z.cF, dx, _, rfl, S2.at_, U.cl, U.fa _ (by simp), by show 1 < 1000; decide, ?_⟩
    have S3 := S2.put "moves" (V.ref am)
    clean_wf
    refine ⟨a, Z.cF, dx, _, rfl, S3.at_, U.cl, U.fa _ (by simp), by show 2 < 1000; decide, ?_⟩
    have S4 := S3.put "ends" (V.ref ae)
    clean_wf
    have hM4 := S4.mvs hM
    have hE4 := S4.sq hE
    generalize upd (upd (upd H1 a _) a _) a _ = H4 at S4 hM4 hE4 ⊢
    refine fun y dxs ny ndx hne => ?_
    have sy : Same H4 (upd (upd H4 dxs (.own y)) y (.ins Z.cS dxs [])) := (same_new ndx).trans (same_new ((upd_ne (Ne.symm hne)).trans ny))
    refine ⟨y, dxs, am, ae, n, ms, es, rfl, upd_same, hM4.same sy, sameT sy hE4, O, fun fs L H5 k5 h5 hL => ⟨rfl, ?_⟩⟩
    have s5 : Same H4 H5 := fun b o hb => k5 _ _ (sy _ _ hb) (ne_of_none hb ny)
    have S5 := S4.later s5
    have ay : a ≠ y := ne_of_none S4.at_ ny
    refine ⟨_, rfl, a, Z.cF, dx, _, rfl, S5.at_, U.cl, U.fa _ (by simp), by show 3 < 1000; decide, ?_⟩
    have S6 := S5.put "sheet" (V.ref y)
    clean_wf
    have h6 : upd H5 a (.ins Z.cF dx (putF "sheet" (V.ref y) (putF "ends" (V.ref ae) (putF "moves" (V.ref am) (putF "size" (V.int (n : Nat)) []))))) y = some (.ins Z.cS dxs fs) := (upd_ne (Ne.symm ay)).trans h5
    generalize upd H5 a _ = H6 at S6 h6 ⊢
    refine ⟨a, Z.cF, dx, _, _, rfl, S6.at_, U.cl, U.fa _ (by simp), by rw [lookup_putF, if_pos rfl], ?_⟩
    refine ⟨y, Z.cS, dxs, _, _, rfl, h6, U.cS, U.sa _ (by simp), hL, ?_⟩
    refine ⟨_, rfl, a, Z.cF, dx, _, rfl, S6.at_, U.cl, U.fa _ (by simp), by show 4 < 1000; decide, ?_⟩
    have S7 := S6.put "letters" (V.str L)
    clean_wf
    have hM7 := S7.mvs hM
    have hE7 := S7.sq hE
    generalize upd H6 a _ = H7 at S7 hM7 hE7 ⊢
    refine ⟨am, ae, n, ms, es, rfl, hM7, hE7, O.upE.imp Nat.ne_of_lt, O.lt, O.ok, Nat.le_trans O.ml (by decide), O.n0, O.nl, fun pu us H8 s8 hpu upU isU ltU => ?_⟩
    have S8 := S7.later s8
    refine ⟨_, rfl, a, Z.cF, dx, _, rfl, S8.at_, U.cl, U.fa _ (by simp), by show 5 < 1000; decide, ?_⟩
    have S9 := S8.put "useful" (V.ref pu)
    clean_wf
    have hM9 := S9.mvs hM
    have hpu9 : SqT K (upd H8 a (.ins Z.cF dx (putF "useful" (V.ref pu) (putF "letters" (V.str L) (putF "sheet" (V.ref y) (putF "ends" (V.ref ae) (putF "moves" (V.ref am) (putF "size" (V.int (n : Nat)) [])))))))) pu (natsV us) := but_sqT (fun b o hb hn => by rw [upd_ne hn]; exact hb) S8.at_ hpu
    generalize upd H8 a _ = H9 at S9 hM9 hpu9 ⊢
    obtain ⟨ps, hT, lps, hms⟩ := hM9
    refine ⟨⟨_, hT⟩, fun D nD => ?_⟩
    refine any_it (o0 := fun _ => .dT []) (walk_tup (K := K) (a := am) (xs := ps.map V.ref)) (fun i HI => Same H9 HI ∧ ∃ kvs2, HI D = some (.dT kvs2) ∧ kvs2.length ≤ i ∧ ∀ s g : Nat, valV kvs2 [Sum.inl (s : Int), Sum.inr (sgn g)] = (nxt (ms.take i) s g).map fun t : Nat => V.int (t : Int)) ⟨same_new nD, [], upd_same, Nat.le_refl _, fun _ _ => rfl⟩ (fun i HI _ h => sameT h.1 hT) ?_ ?_
    · rintro i x H10 H11 hi ⟨s10, kvs2, hD, l2, v2⟩ ⟨rfl, hx⟩
      rw [List.length_map, lps] at hi
      rw [List.getElem?_map] at hx
      obtain ⟨p, hp, rfl⟩ := Option.map_eq_some_iff.mp hx
      obtain ⟨m, gm, am2⟩ := hms i p hp
      have ml := O.ml
      refine ⟨p, _, rfl, sameT s10 am2, rfl, _, _, rfl, _, _, rfl, _, _, rfl, rfl, wipe3b _ _ _ _ _ _ _, yesI ?_⟩
      refine ⟨_, rfl, _, rfl, (by show 2 ≤ sizeLine; decide), fun T nT => ⟨_, rfl, kvs2, [Sum.inl (m.1 : Int), Sum.inr (sgn m.2.1)], T, rfl, upd_same, (same_new nT) _ _ hD, Nat.lt_of_le_of_lt l2 (Nat.lt_of_lt_of_le (show i < 5001 by omega) (by decide)), ?_⟩⟩
      refine ⟨same_upd_of (s10.trans (same_new nT)) nD, _, upd_same, Nat.le_trans (length_putK _ _ _) (Nat.succ_le_succ l2), fun s g => ?_⟩
      have etk : ms.take (i + 1) = ms.take i ++ [m] := by
        rw [List.take_add_one, gm]
        rfl
      have fresh : nxt (ms.take i) m.1 m.2.1 = none := by
        cases e : nxt (ms.take i) m.1 m.2.1 with
        | none => rfl
        | some t =>
          exfalso
          have pw := pw_lat O.up
          have hm := nxt_some e
          obtain ⟨j, hj, ej⟩ := List.getElem_of_mem hm
          rw [List.getElem_take] at ej
          have hj2 : j < i := by rw [List.length_take] at hj; omega
          obtain ⟨hi2, ei⟩ := List.getElem?_eq_some_iff.mp gm
          have z := List.pairwise_iff_getElem.mp pw j i (by omega) hi2 hj2
          rw [ej, ei] at z
          unfold Lat at z
          dsimp only at z
          omega
      rw [valV_put, etk, nxt_add fresh, v2]
      by_cases c : m.1 = s ∧ m.2.1 = g
      · obtain ⟨rfl, rfl⟩ := c
        rw [if_pos rfl, if_pos ⟨rfl, rfl⟩]
        rfl
      · rw [if_neg c, if_neg]
        intro z
        injection z with z1 z2
        injection z1 with z1
        injection z2 with z2 _
        injection z2 with z2
        have z3 : (#[g] : Array Nat) = #[m.2.1] := congrArg Str.cps z2
        exact c ⟨by omega, by simpa using z3.symm⟩
    rintro H10 ⟨s10, kvs2, hD, _, v2⟩
    rw [List.length_map, lps, List.take_length] at v2
    have S10 := S9.later s10
    have Da : D ≠ a := fun z => by
      rw [z, S9.at_] at nD
      exact nomatch nD
    refine ⟨_, rfl, a, Z.cF, dx, _, rfl, S10.at_, U.cl, U.fa _ (by simp), by show 6 < 1000; decide, ?_⟩
    have S11 := S10.put "_goals" (V.ref D)
    clean_wf
    have hE11 := S11.sq hE
    have hD11 : upd H10 a (.ins Z.cF dx (putF "_goals" (V.ref D) (putF "useful" (V.ref pu) (putF "letters" (V.str L) (putF "sheet" (V.ref y) (putF "ends" (V.ref ae) (putF "moves" (V.ref am) (putF "size" (V.int (n : Nat)) [])))))))) D = some (.dT kvs2) := (upd_ne Da).trans hD
    have hpu11 : SqT K (upd H10 a (.ins Z.cF dx (putF "_goals" (V.ref D) (putF "useful" (V.ref pu) (putF "letters" (V.str L) (putF "sheet" (V.ref y) (putF "ends" (V.ref ae) (putF "moves" (V.ref am) (putF "size" (V.int (n : Nat)) []))))))))) pu (natsV us) := but_sqT (fun b o hb hn => by rw [upd_ne hn]; exact hb) S10.at_ (sameT s10 hpu9)
    generalize upd H10 a _ = H11 at S11 hE11 hD11 hpu11 ⊢
    refine ⟨⟨_, hE11⟩, fun De nDe => ?_⟩
    refine dc_true (walk_tup (K := K) (a := ae) (xs := natsV es)) (fun H12 s12 => sameT s12 hE11) (O.upE.imp Nat.ne_of_lt) (by show 8 < 9; decide) (Nat.le_trans O.el (by decide)) nDe fun H12 s12 h12 => ?_
    have S12 := S11.later s12
    refine ⟨_, rfl, a, Z.cF, dx, _, rfl, S12.at_, U.cl, U.fa _ (by simp), by show 7 < 1000; decide, ?_⟩
    have S13 := S12.put "_ends" (V.ref De)
    have hpu13 : SqT K (upd H12 a (.ins Z.cF dx (putF "_ends" (V.ref De) (putF "_goals" (V.ref D) (putF "useful" (V.ref pu) (putF "letters" (V.str L) (putF "sheet" (V.ref y) (putF "ends" (V.ref ae) (putF "moves" (V.ref am) (putF "size" (V.int (n : Nat)) [])))))))))) pu (natsV us) :=
      but_sqT (fun b o hb hn => by rw [upd_ne hn]; exact hb) S12.at_ (sameT s12 hpu11)
    have ade : De ≠ a := fun z => by
      rw [z, S11.at_] at nDe
      exact nomatch nDe
    refine q _ S13.k ⟨O, dx, am, ae, De, _, S13.at_, ?_, ?_, ?_, ?_, S13.mvs hM, S13.sq hE, (upd_ne ade).trans h12, ⟨D, pu, us, kvs2, ?_, ?_, (upd_ne Da).trans (s12 _ _ hD11), v2, hpu13, ⟨upU, isU, ltU⟩⟩, ?_⟩
    · rw [lookup_putF, if_neg (by decide +kernel), lookup_putF, if_neg (by decide +kernel), lookup_putF, if_neg (by decide +kernel), lookup_putF, if_neg (by decide +kernel), lookup_putF, if_neg (by decide +kernel), lookup_putF, if_neg (by decide +kernel), lookup_putF, if_neg (by decide +kernel), lookup_putF, if_pos rfl]
    · rw [lookup_putF, if_neg (by decide +kernel), lookup_putF, if_neg (by decide +kernel), lookup_putF, if_neg (by decide +kernel), lookup_putF, if_neg (by decide +kernel), lookup_putF, if_neg (by decide +kernel), lookup_putF, if_neg (by decide +kernel), lookup_putF, if_pos rfl]
    · rw [lookup_putF, if_neg (by decide +kernel), lookup_putF, if_neg (by decide +kernel), lookup_putF, if_neg (by decide +kernel), lookup_putF, if_neg (by decide +kernel), lookup_putF, if_neg (by decide +kernel), lookup_putF, if_pos rfl]
    · rw [lookup_putF, if_pos rfl]
    · rw [lookup_putF, if_neg (by decide +kernel), lookup_putF, if_pos rfl]
    · rw [lookup_putF, if_neg (by decide +kernel), lookup_putF, if_neg (by decide +kernel), lookup_putF, if_pos rfl]
    · intro m hm
      simp only [List.mem_cons, List.not_mem_nil, or_false] at hm
      rcases hm with rfl | rfl | rfl | rfl <;> (rw [lookup_putF, if_neg (by decide +kernel), lookup_putF, if_neg (by decide +kernel), lookup_putF, if_neg (by decide +kernel), lookup_putF, if_neg (by decide +kernel), lookup_putF, if_neg (by decide +kernel), lookup_putF, if_neg (by decide +kernel), lookup_putF, if_neg (by decide +kernel), lookup_putF, if_neg (by decide +kernel)]; rfl)
end
end SG

/-! Ends, goals by state. -/
namespace SG
open PySem PySem.Spec PyProof PyProof.Rows L2
local macro_rules
  | `(tactic| clean_wf) => `(tactic| repeat (first | refine ⟨_, rfl, ?_⟩ | refine ⟨rfl, ?_⟩ | refine ⟨_, _, rfl, ?_⟩ | refine ⟨_, _, rfl, rfl, ?_⟩ | refine ⟨_, _, _, rfl, ?_⟩ | refine ⟨_, _, _, _, rfl, ?_⟩))
local macro_rules
  | `(tactic| exists $u:ident, $n:ident, $H:ident, $q:ident, $e:ident) => `(tactic| (refine ⟨by first | exact Nat.zero_le _ | assumption | (simp only [List.length_cons, List.length_nil]; decide), fun $u $n => ?_⟩; generalize hh : upd _ $u _ = $H; obtain ⟨$q, $e⟩ := mkq $n hh; clear hh))
local macro_rules
  | `(tactic| simp_wf) => `(tactic| first | assumption | exact upd_same | (refine (by assumption : Same _ _) _ _ ?_; simp_wf) | (refine (by assumption : Kept _ _ _ _) _ _ ?_ (by assumption) (by assumption); simp_wf))
local macro_rules
  | `(tactic| decreasing_trivial) => `(tactic| first | assumption | exact .inl (.inl (by assumption)) | (refine sameT (by assumption) ?_; decreasing_trivial))
local macro_rules
  | `(tactic| array_get_dec) => `(tactic| first | assumption | (refine CdAt.same (by assumption) ?_; array_get_dec))
/-- lists of whole numbers, in a list -/
structure Grid (H H2 : Hp) (D : Addr) (rows : List (List Nat)) (qs : List Addr) : Prop where
  s : Same H H2
  nD : H D = none
  at_ : H2 D = some (.lst (qs.map V.ref))
  len : qs.length = rows.length
  nd : qs.Nodup
  new : ∀ q ∈ qs, H q = none ∧ q ≠ D
  row : ∀ (i : Nat) (q : Addr), qs[i]? = some q → H2 q = some (.lst (natsV (rows.getD i [])))
theorem Grid.later {H H2 H3 : Hp} {D : Addr} {rows : List (List Nat)} {qs : List Addr} (G : Grid H H2 D rows qs) (s : Same H2 H3) : Grid H H3 D rows qs := ⟨G.s.trans s, G.nD, s _ _ G.at_, G.len, G.nd, G.new, fun i q e => s _ _ (G.row i q e)⟩
theorem Grid.add {H H2 : Hp} {D q : Addr} {rows : List (List Nat)} {qs : List Addr} (G : Grid H H2 D rows qs) (nq : H2 q = none) : Grid H (upd (upd H2 q (.lst [])) D (.lst (qs.map V.ref ++ [.ref q]))) D (rows ++ [[]]) (qs ++ [q]) := by
  have qD : q ≠ D := fun z => by
    rw [z, G.at_] at nq
    exact nomatch nq
  have out : ∀ i p, qs[i]? = some p → p ≠ q := fun i p e z => by
    have := G.row i p e
    rw [z, nq] at this
    exact nomatch this
  refine ⟨same_upd_of (same_upd_of G.s (G.s.free nq)) G.nD, G.nD, by rw [upd_same, List.map_append]; rfl, by rw [List.length_append, List.length_append, G.len]; rfl, ?_, ?_, ?_⟩
  · refine List.nodup_append.mpr ⟨G.nd, by simp, fun x hx y hy z => ?_⟩
    rw [List.mem_singleton.mp hy] at z
    obtain ⟨i, hi, e⟩ := List.getElem_of_mem hx
    exact out i x (by rw [List.getElem?_eq_getElem hi, e]) z
  · intro p hp
    rcases List.mem_append.mp hp with z | z
    · exact G.new p z
    · rw [List.mem_singleton.mp z]
      exact ⟨G.s.free nq, qD⟩
  · intro i p e
    by_cases hi : i < qs.length
    · rw [List.getElem?_append_left hi] at e
      have hp := G.new p (List.mem_of_getElem? e)
      rw [upd_ne hp.2, upd_ne (out i p e), G.row i p e, List.getD_eq_getElem?_getD, List.getD_eq_getElem?_getD, List.getElem?_append_left (by rw [← G.len]; exact hi)]
    · have h2 := (List.getElem?_eq_some_iff.mp e).1
      rw [List.length_append, List.length_singleton] at h2
      have e1 : i = qs.length := by omega
      subst e1
      rw [List.getElem?_concat_length] at e
      obtain rfl := Option.some.inj e
      rw [upd_ne qD, upd_same, List.getD_eq_getElem?_getD, G.len, List.getElem?_concat_length]
      rfl
theorem Grid.app {H H2 : Hp} {D q : Addr} {rows : List (List Nat)} {qs : List Addr} {i g : Nat} (G : Grid H H2 D rows qs) (hq : qs[i]? = some q) : Grid H (upd H2 q (.lst (natsV (rows.getD i []) ++ [V.int (g : Int)]))) D (rows.set i (rows.getD i [] ++ [g])) qs := by
  have hn := G.new q (List.mem_of_getElem? hq)
  refine ⟨same_upd_of G.s hn.1, G.nD, (upd_ne (Ne.symm hn.2)).trans G.at_, by rw [List.length_set, G.len], G.nd, G.new, fun j p e => ?_⟩
  have hj := (List.getElem?_eq_some_iff.mp e).1
  by_cases z : j = i
  · subst z
    rw [hq] at e
    obtain rfl := Option.some.inj e
    rw [upd_same, natsV_app, List.getD_eq_getElem?_getD (l := rows.set _ _), List.getElem?_set_self (by rw [← G.len]; exact hj)]
    rfl
  · have pq : p ≠ q := fun y => z (by
      rw [y] at e
      exact (List.getElem?_inj hj G.nd).mp (e.trans hq.symm))
    rw [upd_ne pq, G.row j p e, List.getD_eq_getElem?_getD (l := rows.set _ _), List.getElem?_set_ne (Ne.symm z), ← List.getD_eq_getElem?_getD]
/-- for each state those to which its moves lead -/
def rowsOf (n : Nat) (ms : List Mv) : List (List Nat) := ms.foldl (fun r m => r.set m.1 (r.getD m.1 [] ++ [m.2.2])) (List.replicate n [])
theorem rows_len (ms : List Mv) : ∀ r : List (List Nat), (ms.foldl (fun r m => r.set m.1 (r.getD m.1 [] ++ [m.2.2])) r).length = r.length := by
  induction ms with
  | nil => exact fun _ => rfl
  | cons m ms ih => exact fun r => (ih _).trans (List.length_set ..)
theorem rowsOf_len (n : Nat) (ms : List Mv) : (rowsOf n ms).length = n := (rows_len ms _).trans (List.length_replicate ..)
theorem rows_get (n s : Nat) : ∀ (ms : List Mv) (r : List (List Nat)), r.length = n → (∀ m ∈ ms, m.1 < n) → s < n → (ms.foldl (fun r m => r.set m.1 (r.getD m.1 [] ++ [m.2.2])) r).getD s [] = r.getD s [] ++ (ms.filter fun m => decide (m.1 = s)).map (·.2.2)
  | [], r, _, _, _ => by simp
  | m :: ms, r, hr, ok, hs => by
    rw [List.foldl_cons, rows_get n s ms _ (by rw [List.length_set, hr]) (fun x hx => ok x (List.mem_cons_of_mem _ hx)) hs]
    have o := ok m List.mem_cons_self
    by_cases z : m.1 = s
    · subst z
      rw [List.filter_cons_of_pos (by simp), List.getD_eq_getElem?_getD (l := r.set _ _), List.getElem?_set_self (by omega)]
      simp
    · rw [List.filter_cons_of_neg (by simp [z]), List.getD_eq_getElem?_getD (l := r.set _ _), List.getElem?_set_ne z, ← List.getD_eq_getElem?_getD]
theorem rowsOf_get {n s : Nat} {ms : List Mv} (ok : ∀ m ∈ ms, m.1 < n) (hs : s < n) : (rowsOf n ms).getD s [] = (ms.filter fun m => decide (m.1 = s)).map (·.2.2) := by
  unfold rowsOf
  rw [rows_get n s ms _ (List.length_replicate ..) ok hs, List.getD_eq_getElem?_getD, List.getElem?_replicate, if_pos hs]
  rfl
def RowsAt (H : Hp) (p : Addr) (rows : List (List Nat)) : Prop := ∃ qs : List Addr, H p = some (.lst (qs.map V.ref)) ∧ qs.length = rows.length ∧ ∀ (i : Nat) (q : Addr), qs[i]? = some q → H q = some (.lst (natsV (rows.getD i [])))
theorem RowsAt.same {H H2 : Hp} {p : Addr} {rows : List (List Nat)} (s : Same H H2) (h : RowsAt H p rows) : RowsAt H2 p rows := by
  obtain ⟨qs, h1, h2, h3⟩ := h
  exact ⟨qs, s _ _ h1, h2, fun i q e => s _ _ (h3 i q e)⟩
section
variable {P : Program} {w : World} {K : PySem.W.Frag} {mg : Str → Option Value} {base : Heap} {Z : Ads}
/-- a state, or None -/
def optV : Option Nat → V
  | none => .non
  | some s => .int (s : Int)
def isEndO (es : List Nat) : Option Nat → Bool
  | none => false
  | some s => decide (s ∈ es)
def spIsEnd (K : PySem.W.Frag) (C : Addr) : Sp := fun vs H Q _ => ∃ (a : Addr) (n : Nat) (ms : List Mv) (es : List Nat) (st : Option Nat), vs = [.ref a, optV st] ∧ FmAt K C H a n ms es ∧ Q (.bl (isEndO es st)) H
theorem fo_is_end {fd0 : FuncData} (F : Fun K "is_end" "Format.is_end" s_Format_is_end Z.ie fd0) (U : Own K mg Z) (T : Txt mg) : FnOk P w K mg base CX0 1 Z.ie fd0 ["self", "state"] (spIsEnd K Z.cF) := by
  refine F.ok sc_Format_is_end (fun vs H Q E h => ?_) (fun cdv A outer s H vs Q E hr h => ?_)
  · obtain ⟨a, n, ms, es, st, rfl, _⟩ := h
    rfl
  · obtain ⟨a, n, ms, es, st, rfl, ⟨O, dx, am, ae, de, fs, h1, h2, h3, h4, h5, h6, h7, h8, _⟩, q⟩ := h
    have nd := sc_Format_is_end.nd
    refine ⟨_, (pss_one (ps_ret (pe_cmp (pc_dinN (hu_of hr) (pv 1) (k_fld (K := K) (pv 0)))))), ?_⟩
    cases st with
    | none =>
      refine ⟨_, rfl, _, rfl, a, Z.cF, dx, _, _, rfl, h1, U.cl, U.fa _ (by simp), h5, .inr ⟨de, trueD es, rfl, rfl, .inl h8, ?_⟩⟩
      exact q
    | some st =>
      refine ⟨_, rfl, _, rfl, a, Z.cF, dx, _, _, rfl, h1, U.cl, U.fa _ (by simp), h5, .inl ⟨de, _, rfl, DGet.k (k := Sum.inl (st : Int)) h8, ?_⟩⟩
      rw [val_true]
      exact q
def spStep (K : PySem.W.Frag) (C : Addr) : Sp := fun vs H Q _ => ∃ (a : Addr) (n : Nat) (ms : List Mv) (es : List Nat) (st g : Nat), vs = [.ref a, .int st, .str (sgn g)] ∧ FmAt K C H a n ms es ∧ ∀ H2, Same H H2 → Q (optV (nxt ms st g)) H2
theorem opt_get (ms : List Mv) (s g : Nat) : ((nxt ms s g).map fun t : Nat => V.int (t : Int)).getD .non = optV (nxt ms s g) := by
  cases nxt ms s g <;> rfl
theorem fo_step {fd0 : FuncData} (F : Fun K "step" "Format.step" s_Format_step Z.stp fd0) (U : Own K mg Z) (T : Txt mg) : FnOk P w K mg base CX0 1 Z.stp fd0 ["self", "state", "letter"] (spStep K Z.cF) := by
  refine F.ok sc_Format_step (fun vs H Q E h => ?_) (fun cdv A outer s H vs Q E hr h => ?_)
  · obtain ⟨a, n, ms, es, st, g, rfl, _⟩ := h
    rfl
  · obtain ⟨a, n, ms, es, st, g, rfl, ⟨O, dx, am, ae, de, fs, h1, h2, h3, h4, h5, h6, h7, h8, ⟨dg, au, us, kvs, x1, x2, x3, x4, x5, x6⟩, _⟩, q⟩ := h
    have nd := sc_Format_step.nd
    refine ⟨_, (pss_one (ps_ret (pe_dget1 (hu_of hr) (k_fld (K := K) (pv 0)) (pe_tup (pa_cons (pv 1) (pa_cons (pv 2) pa_nil))) ⟨by rfl, by rfl, by rfl, by rfl⟩))), ?_⟩
    refine ⟨_, rfl, a, Z.cF, dx, _, _, rfl, h1, U.cl, U.fa _ (by simp), x1, dg, rfl, .inr ⟨_, .inl x3⟩, ?_⟩
    refine ⟨_, rfl, _, rfl, (by show 2 ≤ sizeLine; decide), fun T nT => ?_⟩
    refine ⟨_, DGet.t (k := [Sum.inl (st : Int), Sum.inr (sgn g)]) (same_new nT _ _ x3) upd_same, ?_⟩
    rw [x4, opt_get]
    exact q _ (same_new nT)
/-- where a word leads -/
def ledW (ms : List Mv) : Nat → List Nat → Option Nat
  | s, [] => some s
  | s, g :: r => match nxt ms s g with
    | none => none
    | some t => ledW ms t r
theorem led_app (ms : List Mv) : ∀ (a b : List Nat) (s : Nat), ledW ms s (a ++ b) = (ledW ms s a).bind fun t => ledW ms t b
  | [], b, s => rfl
  | g :: a, b, s => by
    show ledW ms s (g :: (a ++ b)) = _
    rw [ledW, ledW]
    cases nxt ms s g with
    | none => rfl
    | some t => exact led_app ms a b t
def spLed (K : PySem.W.Frag) (C : Addr) : Sp := fun vs H Q _ => ∃ (a : Addr) (n : Nat) (ms : List Mv) (es : List Nat) (st : Nat) (z : Str), vs = [.ref a, .str z, .int st] ∧ FmAt K C H a n ms es ∧ ∀ H2, Same H H2 → Q (optV (ledW ms st z.cps.toList)) H2
theorem fo_led {fd0 : FuncData} {dvs : List V} (F : FunD K "led" "Format.led" (defArgs s_Format_led) (defBody s_Format_led) (defScope s_Format_led) dvs [] Z.led fd0) (U : Own K mg Z) (T : Txt mg) : FnOk P w K mg base CX0 1 Z.led fd0 ["self", "word", "state"] (spLed K Z.cF) := by
  refine F.ok sc_Format_led (fun vs H Q E h => ?_) (fun cdv A outer s H vs Q E hr h => ?_)
  · obtain ⟨a, n, ms, es, st, z, rfl, _⟩ := h
    rfl
  · obtain ⟨a, n, ms, es, st, z, rfl, ⟨O, dx, am, ae, de, fs, h1, h2, h3, h4, h5, h6, h7, h8, ⟨dg, au, us, kvs, x1, x2, x3, x4, x5, x6⟩, _⟩, q⟩ := h
    have nd := sc_Format_led.nd
    refine ⟨_, (pss_cons (ps_for (passes_of rfl) rfl (pi_str (pv 1)) (pg_name (i := 3) nd rfl (Or.inl rfl))
        (pss_cons (ps_set (i := 2) nd rfl (Or.inl rfl) (pe_dget1 (hu_of hr) (k_fld (K := K) (pv 0)) (pe_tup (pa_cons (pv 2) (pa_cons (pv 3) pa_nil))) ⟨by rfl, by rfl, by rfl, by rfl⟩))
      (pss_one (ps_if (pt_cmpR op_isN (pv 2) pe_non (nomark _)) (pss_one (ps_ret pe_non)) pss_nil))))
      (pss_one (ps_ret (pv 2)))), ?_⟩
    refine ⟨_, rfl, z, rfl, ?_⟩
    refine for_it walk_str (fun i σ HI => ∃ (t : Nat) (y : Option V), σ = [some (.ref a), some (.str z), some (.int (t : Nat)), y] ∧ Same H HI ∧ ledW ms st (z.cps.toList.take i) = some t) ⟨st, none, rfl, Same.refl _, rfl⟩ (fun _ _ _ _ _ => trivial) ?_ ?_
    · rintro i x σ H2 H3 hi ⟨t, y, rfl, s2, e2⟩ ⟨rfl, g, hg, rfl⟩
      have hg2 : z.cps.toList[i]? = some g := by rw [← hg]; exact Array.getElem?_toList ..
      have et : z.cps.toList.take (i + 1) = z.cps.toList.take i ++ [g] := by
        rw [List.take_add_one, hg2]
        rfl
      refine ⟨_, rfl, a, Z.cF, dx, _, _, rfl, s2 _ _ h1, U.cl, U.fa _ (by simp), x1, dg, rfl, .inr ⟨_, .inl (s2 _ _ x3)⟩, ?_⟩
      refine ⟨_, rfl, _, rfl, (by show 2 ≤ sizeLine; decide), fun T nT => ?_⟩
      refine ⟨_, DGet.t (k := [Sum.inl (t : Int), Sum.inr (sgn g)]) (same_new nT _ _ (s2 _ _ x3)) upd_same, ?_⟩
      rw [x4, opt_get]
      have s3 := s2.trans (same_new (o := .tup [V.int (t : Nat), V.str (sgn g)]) nT)
      have e3 : ledW ms st (z.cps.toList.take (i + 1)) = nxt ms t g := by
        rw [et, led_app, e2]
        show ledW ms t [g] = _
        unfold ledW
        cases nxt ms t g <;> rfl
      cases en : nxt ms t g with
      | none =>
        refine ⟨_, rfl, rfl, true, rfl, ifT rfl ?_⟩
        have e4 : ledW ms st z.cps.toList = none := by
          rw [← List.take_append_drop (i + 1) z.cps.toList, led_app, e3, en]
          rfl
        have z2 := q _ s3
        rw [e4] at z2
        exact z2
      | some t2 =>
        refine ⟨_, rfl, rfl, false, rfl, ifF rfl ?_⟩
        exact ⟨t2, _, rfl, s3, by rw [e3, en]⟩
    rintro σ H2 ⟨t, y, rfl, s2, e2⟩
    rw [show z.cps.size = z.cps.toList.length from (Array.length_toList ..).symm, List.take_length] at e2
    refine ⟨_, rfl, ?_⟩
    have z2 := q _ s2
    rw [e2] at z2
    exact z2
def lettersB (l : List Nat) : Bool := l.all isLetN
def spIsWord : Sp := fun vs H Q _ => ∃ z : Str, vs = [.str z] ∧ z.length ≤ 50000 ∧ ∀ H2, Same H H2 → Q (.bl (lettersB z.cps.toList)) H2
theorem fo_is_word {f : Addr} {fd0 : FuncData} (F : Fun K "is_word" "is_word" s_is_word f fd0) (T : Txt mg) : FnOk P w K mg base CX0 1 f fd0 ["thing"] spIsWord := by
  refine F.ok sc_is_word (fun vs H Q E h => ?_) (fun cdv A outer s H vs Q E hr h => ?_)
  · obtain ⟨z, rfl, _⟩ := h
    rfl
  · obtain ⟨z, rfl, hz, q⟩ := h
    have nd := sc_is_word.nd
    refine ⟨_, (pss_one (ps_ret (pe_and (pe_callB (k_isi (K := K)) (by rfl) T.isinstance (by decide +kernel) (pa_cons (pv 0) (pa_cons (pe_bltn (v := .ty "str") (by rfl) T.str (by decide +kernel) rfl) pa_nil))) (pe_one (pe_callB (k_all (K := K) rfl) (by rfl) T.all (by decide +kernel) (pa_cons (pe_lc (own := [("sign", 1)]) rfl nd (pi_str (pv 0)) (blkOk_by (N := N_is_word) (sc := defScope s_is_word) (by decide +kernel)) (fun _ _ _ _ _ => (pg_name (i := 1) nd rfl (Or.inl rfl))) (fun _ _ _ _ _ => pts_nil) (fun _ _ _ _ _ => (pe_chain op_le_str op_le_str pe_str (pv 1) pe_str))) pa_nil)))))), ?_⟩
    refine ⟨_, rfl, _, _, _, _, _, rfl, .ty "str", .base (.str _), kit_ty (by decide +kernel), _, rfl, ifT rfl ?_⟩
    have sz : z.cps.size = z.length := rfl
    refine ⟨_, rfl, z, rfl, fun D nD => ?_⟩
    refine lc_valW walk_str (by omega) nD (fun i => V.bl (isLetN (z.cps.toList.getD i 0))) (fun _ _ => trivial) ?_ ?_
    · rintro i x H2 H3 hi s2 ⟨rfl, g, hg, rfl⟩ R hR
      have hg2 : z.cps.toList[i]? = some g := by rw [← hg]; exact Array.getElem?_toList ..
      have eg : z.cps.toList.getD i 0 = g := by rw [List.getD_eq_getElem?_getD, hg2]; rfl
      rw [eg] at hR
      refine ⟨wipe1 _ _ _, ?_⟩
      refine ⟨_, rfl, _, _, rfl, rfl, _, rfl, ?_⟩
      rw [sign_a, sign_z, le_sign]
      by_cases h : 97 ≤ g
      · refine ifT (decide_eq_true h) ⟨_, _, rfl, rfl, ?_⟩
        rw [le_sign]
        have z : isLetN g = decide (g ≤ 122) := by unfold isLetN; rw [decide_eq_true h, Bool.true_and]
        rw [z] at hR
        exact hR _ (Same.refl _)
      · refine ifF (decide_eq_false h) ?_
        have z : isLetN g = false := by unfold isLetN; rw [decide_eq_false h, Bool.false_and]
        rw [z] at hR
        exact hR _ (Same.refl _)
    intro H2 s2 hD
    refine ⟨D, _, rfl, SqL.of (hD.trans (congrArg (fun l => some (HO.lst l)) (bls_map _))), ?_⟩
    have e : ((List.range z.cps.size).map fun i => isLetN (z.cps.toList.getD i 0)).all id = lettersB z.cps.toList := by
      have h2 : (List.range z.cps.toList.length).map (fun i => isLetN (z.cps.toList.getD i 0)) = z.cps.toList.map isLetN := by
        refine List.ext_getElem (by simp) fun i h1 h2 => ?_
        have h3 : i < z.cps.toList.length := by simpa using h2
        rw [List.getElem_map, List.getElem_map, List.getElem_range, List.getD_eq_getElem?_getD, List.getElem?_eq_getElem h3]
        rfl
      rw [show z.cps.size = z.cps.toList.length from (Array.length_toList ..).symm, h2]
      unfold lettersB
      rw [List.all_map]
      rfl
    rw [e]
    exact q _ s2
theorem led_letters {n : Nat} {ms : List Mv} (ok : ∀ m ∈ ms, OkM n m) : ∀ (l : List Nat) (s t : Nat), ledW ms s l = some t → lettersB l = true
  | [], _, _, _ => rfl
  | g :: l, s, t, h => by
    unfold ledW at h
    cases e : nxt ms s g with
    | none => rw [e] at h; exact nomatch h
    | some u =>
      rw [e] at h
      have z := led_letters ok l u t h
      have o := (ok _ (nxt_some e)).2.1
      show (isLetN g && lettersB l) = true
      rw [z, Bool.and_true]
      unfold isLetN
      dsimp only at o
      rw [decide_eq_true o.1, decide_eq_true o.2]
      rfl
/-- whether a word is one of the format -/
def hasW (ms : List Mv) (es l : List Nat) : Bool := isEndO es (ledW ms 0 l)
def spHas (K : PySem.W.Frag) (C : Addr) : Sp := fun vs H Q _ => ∃ (a : Addr) (n : Nat) (ms : List Mv) (es : List Nat) (z : Str), vs = [.ref a, .str z] ∧ FmAt K C H a n ms es ∧ z.length ≤ 50000 ∧ ∀ H2, Same H H2 → Q (.bl (hasW ms es z.cps.toList)) H2
theorem fo_has {f1 : Addr} {fd0 fd1 fd2 fd3 : FuncData} {dvs : List V} (F : Fun K "has" "Format.has" s_Format_has Z.has fd0) (U : Own K mg Z) (F_is_word : Fun K "is_word" "is_word" s_is_word f1 fd1) (m_is_word : mg "is_word" = some (.ref f1)) (b_is_word : Binds K fd1 ["thing"] [])
    (F_Format_is_end : Fun K "is_end" "Format.is_end" s_Format_is_end Z.ie fd2) (b_Format_is_end : Binds K fd2 ["self", "state"] []) (F_Format_led : FunD K "led" "Format.led" (defArgs s_Format_led) (defBody s_Format_led) (defScope s_Format_led) dvs [] Z.led fd3)
    {ds : List Value} (b_Format_led : Binds K fd3 ["self", "word", "state"] ds) (dv_Format_led : Vals [V.int 0] ds) (T : Txt mg) : FnOk P w K mg base CX0 2 Z.has fd0 ["self", "thing"] (spHas K Z.cF) := by
  have G_is_word : FnOk P w K mg base CX0 1 f1 fd1 ["thing"] spIsWord := fo_is_word F_is_word T
  have G_Format_is_end : FnOk P w K mg base CX0 1 Z.ie fd2 ["self", "state"] (spIsEnd K Z.cF) := fo_is_end F_Format_is_end U T
  have G_Format_led : FnOk P w K mg base CX0 1 Z.led fd3 ["self", "word", "state"] (spLed K Z.cF) := fo_led F_Format_led U T
  refine F.ok sc_Format_has (fun vs H Q E h => ?_) (fun cdv A outer s H vs Q E hr h => ?_)
  · obtain ⟨a, n, ms, es, z, rfl, _⟩ := h
    rfl
  · obtain ⟨a, n, ms, es, z, rfl, hF, hz, q⟩ := h
    have nd := sc_Format_has.nd
    refine ⟨_, (pss_one (ps_ret (pe_and (pe_call G_is_word (hr.mono (by decide)) (by rfl) m_is_word F_is_word.kp b_is_word .nil pass0 (pa_cons (pv 1) pa_nil)) (pe_one (pe_meth (E := E0) (pv 0) U.cl U.me_is_end G_Format_is_end (hr.mono (by decide)) b_Format_is_end .nil pass0 (pa_cons (pe_meth (E := E0) (pv 0) U.cl U.me_led G_Format_led (hr.mono (by decide)) b_Format_led dv_Format_led pass0 (pa_cons (pv 1) pa_nil)) pa_nil)))))), ?_⟩
    have hF0 := hF
    obtain ⟨O, dx, am, ae, de, fs, h1, h2, h3, h4, h5, h6, h7, h8, hx, hm⟩ := hF
    refine ⟨_, rfl, z, rfl, hz, fun H1 s1 => ⟨_, rfl, ?_⟩⟩
    cases e : lettersB z.cps.toList with
    | false =>
      refine ifF rfl ?_
      have e2 : hasW ms es z.cps.toList = false := by
        unfold hasW
        cases e3 : ledW ms 0 z.cps.toList with
        | none => rfl
        | some t =>
          rw [led_letters O.ok _ _ _ e3] at e
          exact nomatch e
      have z2 := q _ s1
      rw [e2] at z2
      exact z2
    | true =>
      refine ifT rfl ?_
      refine ⟨_, rfl, a, dx, fs, rfl, s1 _ _ h1, hm _ (by simp), ?_⟩
      refine ⟨_, rfl, a, dx, fs, rfl, s1 _ _ h1, hm _ (by simp), ?_⟩
      refine ⟨_, rfl, a, n, ms, es, 0, z, rfl, hF0.same s1, fun H2 s2 => ?_⟩
      exact ⟨a, n, ms, es, _, rfl, (hF0.same s1).same s2, q _ (s1.trans s2)⟩
def spGbs (K : PySem.W.Frag) (C : Addr) : Sp := fun vs H Q _ => ∃ (a : Addr) (n : Nat) (ms : List Mv) (es : List Nat), vs = [.ref a] ∧ FmAt K C H a n ms es ∧ ∀ (p : Addr) (H2 : Hp), Same H H2 → RowsAt H2 p (rowsOf n ms) → Q (.ref p) H2
theorem fo_gbs {f : Addr} {fd0 : FuncData} (F : Fun K "goals_by_state" "goals_by_state" s_goals_by_state f fd0) (U : Own K mg Z) (T : Txt mg) : FnOk P w K mg base CX0 1 f fd0 ["form"] (spGbs K Z.cF) := by
  refine F.ok sc_goals_by_state (fun vs H Q E h => ?_) (fun cdv A outer s H vs Q E hr h => ?_)
  · obtain ⟨a, n, ms, es, rfl, _⟩ := h
    rfl
  · obtain ⟨a, n, ms, es, rfl, ⟨O, dx, am, ae, de, fs, h1, h2, h3, h4, h5, h6, h7, h8, _⟩, q⟩ := h
    have nd := sc_goals_by_state.nd
    refine ⟨_, (pss_cons (ps_setLc (i := 1) (own := [("_", 3)]) rfl nd rfl rfl (sw_true rfl rfl rfl (by decide +kernel)) (pi_range1 rfl T.range (pa_cons (k_fld (K := K) (pv 0)) pa_nil)) (blkOk_by (N := N_goals_by_state) (sc := defScope s_goals_by_state) (by decide +kernel)) (fun _ _ _ _ _ => (pg_name (i := 3) nd rfl (Or.inl rfl))) (fun _ _ _ _ _ => pts_nil) (fun _ _ _ _ _ => (pe_lst pa_nil)))
      (pss_cons (ps_for PassesOwn.never rfl (pi_tup (k_fld (K := K) (pv 0))) (k_tg (K := K) (n := 3) rfl (pgs_cons (pg_name (i := 2) nd rfl (Or.inl rfl)) (pgs_cons (pg_name (i := 3) nd rfl (Or.inl rfl)) (pgs_cons (pg_name (i := 4) nd rfl (Or.inl rfl)) pgs_nil))))
        (pss_one (ps_expr (pe_bm PySem.F.plainAttrs_list PySem.F.slot_list_append PySem.F.type_list_append mt_append (pe_ix (k_ixL (K := K)) (pv 1) (pv 2) (fun _ _ => rfl)) (pa_cons (pv 4) pa_nil)))))
      (pss_one (ps_ret (pv 1))))), ?_⟩
    refine ⟨_, rfl, a, Z.cF, dx, _, _, rfl, h1, U.cl, U.fa _ (by simp), h2, ?_⟩
    have nl := O.nl
    refine ⟨_, rfl, by omega, by omega, fun D nD => ?_⟩
    rw [Int.toNat_natCast]
    refine lc_it (walk_range (lo := 0) (n := n)) (fun i HI => ∃ qs, Grid H HI D (List.replicate i []) qs) ⟨[], same_new nD, nD, upd_same, rfl, List.nodup_nil, (fun q hq => nomatch hq), (fun i q e => nomatch e)⟩ (fun _ _ _ _ => trivial) ?_ ?_
    · rintro i x H1 H2 hi ⟨qs, G⟩ ⟨rfl, rfl⟩
      refine ⟨wipe1 _ _ _, yesI ⟨by decide, fun q nq => ?_⟩⟩
      have ql : (qs.map V.ref).length < sizeLine := Nat.lt_of_lt_of_le (show (qs.map V.ref).length < 1001 by rw [List.length_map, G.len, List.length_replicate]; omega) (by decide)
      have qD : q ≠ D := fun z => by
        rw [z, G.at_] at nq
        exact nomatch nq
      refine ⟨_, (upd_ne (Ne.symm qD)).trans G.at_, ql, qs ++ [q], ?_⟩
      rw [List.replicate_succ']
      exact G.add nq
    rintro H1 ⟨qs, G1⟩
    clean_wf
    have h11 := G1.s _ _ h1
    obtain ⟨ps, hT, lps, hms⟩ := h6
    refine ⟨a, Z.cF, dx, _, _, rfl, h11, U.cl, U.fa _ (by simp), h3, am, rfl, ⟨_, sameT G1.s hT⟩, ?_⟩
    refine for_it (walk_tup (K := K) (a := am) (xs := ps.map V.ref)) (fun i σ HI => ∃ (y2 y3 y4 : Option V), σ = [some (.ref a), some (.ref D), y2, y3, y4] ∧ Grid H HI D (rowsOf n (ms.take i)) qs) ⟨none, none, none, rfl, G1⟩ (fun i σ H2 _ h => by obtain ⟨_, _, _, _, h⟩ := h; exact sameT h.s hT) ?_ ?_
    · rintro i x σ H2 H3 hi ⟨y2, y3, y4, rfl, G⟩ ⟨rfl, hx⟩
      rw [List.length_map, lps] at hi
      rw [List.getElem?_map] at hx
      obtain ⟨p, hp, rfl⟩ := Option.map_eq_some_iff.mp hx
      obtain ⟨m, gm, am2⟩ := hms i p hp
      obtain ⟨o1, o2, o3⟩ := O.ok m (List.mem_of_getElem? gm)
      have ml := O.ml
      have lq : m.1 < qs.length := by rw [G.len, rowsOf_len]; exact o1
      have hq : qs[m.1]? = some qs[m.1] := List.getElem?_eq_getElem lq
      have hr2 := G.row _ _ hq
      refine ⟨p, _, rfl, sameT G.s am2, rfl, _, _, rfl, _, _, rfl, _, _, rfl, rfl, ?_⟩
      refine ⟨_, rfl, _, rfl, D, _, _, .ref qs[m.1], rfl, rfl, SqL.of G.at_, atI_nat (by rw [List.getElem?_map, hq]; rfl), .inl ⟨rfl, _, SqL.of hr2⟩, _, rfl, _, _, _, rfl, rfl, hr2, ?_, _, _, _, rfl, ?_⟩
      · rw [natsV_len, rowsOf_get (fun x hx => (O.ok x (List.mem_of_mem_take hx)).1) o1, List.length_map]
        refine Nat.lt_of_le_of_lt (List.length_filter_le _ _) (Nat.lt_of_lt_of_le (show (ms.take i).length < 1001 by rw [List.length_take]; omega) (by decide))
      have G2 := G.app (g := m.2.2) hq
      have e : rowsOf n (ms.take (i + 1)) = (rowsOf n (ms.take i)).set m.1 ((rowsOf n (ms.take i)).getD m.1 [] ++ [m.2.2]) := by
        unfold rowsOf
        rw [List.take_add_one, gm, List.foldl_append]
        rfl
      rw [e]
      exact G2
    rintro σ H2 ⟨y2, y3, y4, rfl, G⟩
    rw [List.length_map, lps, List.take_length] at G
    refine ⟨_, rfl, q D H2 G.s ⟨qs, G.at_, G.len, G.row⟩⟩
end
end SG

/-! Counts, one length and the next. -/
namespace SG
open PySem PySem.Spec PyProof PyProof.Rows L2
local macro_rules
  | `(tactic| clean_wf) => `(tactic| repeat (first | refine ⟨_, rfl, ?_⟩ | refine ⟨rfl, ?_⟩ | refine ⟨_, _, rfl, ?_⟩ | refine ⟨_, _, rfl, rfl, ?_⟩ | refine ⟨_, _, _, rfl, ?_⟩ | refine ⟨_, _, _, _, rfl, ?_⟩))
local macro_rules
  | `(tactic| exists $u:ident, $n:ident, $H:ident, $q:ident, $e:ident) => `(tactic| (refine ⟨by first | exact Nat.zero_le _ | assumption | (simp only [List.length_cons, List.length_nil]; decide), fun $u $n => ?_⟩; generalize hh : upd _ $u _ = $H; obtain ⟨$q, $e⟩ := mkq $n hh; clear hh))
local macro_rules
  | `(tactic| simp_wf) => `(tactic| first | assumption | exact upd_same | (refine (by assumption : Same _ _) _ _ ?_; simp_wf) | (refine (by assumption : Kept _ _ _ _) _ _ ?_ (by assumption) (by assumption); simp_wf))
local macro_rules
  | `(tactic| decreasing_trivial) => `(tactic| first | assumption | exact .inl (.inl (by assumption)) | (refine sameT (by assumption) ?_; decreasing_trivial))
local macro_rules
  | `(tactic| array_get_dec) => `(tactic| first | assumption | (refine CdAt.same (by assumption) ?_; array_get_dec))
def endsOf (n : Nat) (es : List Nat) : List Nat := (List.range n).map fun s => if s ∈ es then 1 else 0
def lng (rows : List (List Nat)) (now : List Nat) : List Nat := rows.map fun row => (row.map fun g => now.getD g 0).sum
def cAt (n : Nat) (ms : List Mv) (es : List Nat) : Nat → List Nat
  | 0 => endsOf n es
  | k + 1 => lng (rowsOf n ms) (cAt n ms es k)
theorem sum_nats : ∀ l : List Nat, (l.map fun n : Nat => (n : Int)).sum = (l.sum : Nat)
  | [] => rfl
  | a :: l => by
    rw [List.map_cons, List.sum_cons, List.sum_cons, sum_nats l]
    omega
theorem cAt_len (n : Nat) (ms : List Mv) (es : List Nat) : ∀ k, (cAt n ms es k).length = n
  | 0 => by unfold cAt endsOf; rw [List.length_map, List.length_range]
  | k + 1 => by unfold cAt lng; rw [List.length_map, rowsOf_len]
theorem rows_ok {n : Nat} {ms : List Mv} {es : List Nat} (O : FmOk n ms es) : ∀ r ∈ rowsOf n ms, r.length ≤ 5000 ∧ ∀ g ∈ r, g < n := by
  intro r hr
  obtain ⟨i, hi, e⟩ := List.getElem_of_mem hr
  rw [rowsOf_len] at hi
  have z := rowsOf_get (fun m hm => (O.ok m hm).1) hi
  rw [List.getD_eq_getElem?_getD, List.getElem?_eq_getElem (by rw [rowsOf_len]; exact hi), Option.getD_some, e] at z
  rw [z]
  have ml := O.ml
  refine ⟨?_, fun g hg => ?_⟩
  · rw [List.length_map]
    exact Nat.le_trans (List.length_filter_le _ _) (by omega)
  · obtain ⟨m, hm, rfl⟩ := List.mem_map.mp hg
    exact (O.ok m (List.mem_filter.mp hm).1).2.2
section
variable {P : Program} {w : World} {K : PySem.W.Frag} {mg : Str → Option Value} {base : Heap} {Z : Ads}
def spEndC (K : PySem.W.Frag) (C : Addr) : Sp := fun vs H Q _ => ∃ (a : Addr) (n : Nat) (ms : List Mv) (es : List Nat), vs = [.ref a] ∧ FmAt K C H a n ms es ∧ ∀ (p : Addr) (H2 : Hp), Same H H2 → H2 p = some (.lst (natsV (endsOf n es))) → Q (.ref p) H2
theorem fo_endC {f : Addr} {fd0 fd1 : FuncData} (F : Fun K "counts_at_ends" "counts_at_ends" s_counts_at_ends f fd0) (F_Format_is_end : Fun K "is_end" "Format.is_end" s_Format_is_end Z.ie fd1) (b_Format_is_end : Binds K fd1 ["self", "state"] []) (U : Own K mg Z) (T : Txt mg) : FnOk P w K mg base CX0 2 f fd0 ["form"] (spEndC K Z.cF) := by
  have G_Format_is_end : FnOk P w K mg base CX0 1 Z.ie fd1 ["self", "state"] (spIsEnd K Z.cF) := fo_is_end F_Format_is_end U T
  have U2 := U
  refine F.ok sc_counts_at_ends (fun vs H Q E h => ?_) (fun cdv A outer s H vs Q E hr h => ?_)
  · obtain ⟨a, n, ms, es, rfl, _⟩ := h
    rfl
  · obtain ⟨a, n, ms, es, rfl, hF, q⟩ := h
    have nd := sc_counts_at_ends.nd
    refine ⟨_, (pss_one (ps_ret (pe_lc (own := [("state", 1)]) rfl nd (pi_range1 rfl T.range (pa_cons (k_fld (K := K) (pv 0)) pa_nil)) (blkOk_by (N := N_counts_at_ends) (sc := defScope s_counts_at_ends) (by decide +kernel)) (fun _ _ _ _ _ => (pg_name (i := 1) nd rfl (Or.inl rfl))) (fun _ _ _ _ _ => pts_nil) (fun _ _ _ _ _ => (pe_ifExp (pt_val (pe_meth (E := E0) (pv 0) U.cl U.me_is_end G_Format_is_end (hr.mono (by decide)) b_Format_is_end .nil pass0 (pa_cons (pv 1) pa_nil))) pe_int pe_int))))), ?_⟩
    have hF0 := hF
    obtain ⟨O, dx, am, ae, de, fs, h1, h2, h3, h4, h5, h6, h7, h8, _, hm⟩ := hF
    have nl := O.nl
    refine ⟨_, rfl, a, Z.cF, dx, _, _, rfl, h1, U.cl, U.fa _ (by simp), h2, _, rfl, by omega, by omega, fun D nD => ?_⟩
    rw [Int.toNat_natCast]
    refine lc_valW (walk_range (lo := 0) (n := n)) (by omega) nD (fun i => V.int ((if i ∈ es then 1 else 0 : Nat) : Int)) (fun _ _ => trivial) ?_ ?_
    · rintro i x H2 H3 hi s2 ⟨rfl, hx⟩ R hR
      obtain rfl : x = V.int (i : Int) := by
        rw [hx]
        show V.int (0 + (i : Int)) = _
        rw [Int.zero_add]
      refine ⟨wipe1 _ _ _, ?_⟩
      refine ⟨_, rfl, a, dx, fs, rfl, s2 _ _ h1, hm _ (by simp), _, rfl, a, n, ms, es, i, rfl, hF0.same s2, _, rfl, ?_⟩
      by_cases m : i ∈ es
      · refine ifT (decide_eq_true m) ?_
        rw [if_pos m] at hR
        exact hR _ (Same.refl _)
      · refine ifF (decide_eq_false m) ?_
        rw [if_neg m] at hR
        exact hR _ (Same.refl _)
    intro H2 s2 hD
    refine q D H2 s2 (hD.trans ?_)
    unfold endsOf natsV
    rw [List.map_map]
    rfl
def spLng (K : PySem.W.Frag) : Sp := fun vs H Q _ => ∃ (pg pn : Addr) (rows : List (List Nat)) (now : List Nat), vs = [.ref pg, .ref pn] ∧ RowsAt H pg rows ∧ H pn = some (.lst (natsV now)) ∧ rows.length ≤ 1000 ∧ (∀ r ∈ rows, r.length ≤ 5000 ∧ ∀ g ∈ r, g < now.length) ∧
  ∀ (p : Addr) (H2 : Hp), Same H H2 → H p = none → H2 p = some (.lst (natsV (lng rows now))) → Q (.ref p) H2
theorem fo_lng {f : Addr} {fd0 : FuncData} (F : Fun K "longer" "longer" s_longer f fd0) (T : Txt mg) : FnOk P w K mg base CX0 1 f fd0 ["goals", "now"] (spLng K) := by
  refine F.ok sc_longer (fun vs H Q E h => ?_) (fun cdv A outer s H vs Q E hr h => ?_)
  · obtain ⟨pg, pn, rows, now, rfl, _⟩ := h
    rfl
  · obtain ⟨pg, pn, rows, now, rfl, hG, hn, l1, l2, q⟩ := h
    have nd := sc_longer.nd
    refine ⟨_, (pss_one (ps_ret (pe_lc (own := [("row", 2)]) rfl nd (pi_list (pv 0)) (blkOk_by (N := N_longer) (sc := defScope s_longer) (by decide +kernel)) (fun _ _ _ _ _ => (pg_name (i := 2) nd rfl (Or.inl rfl))) (fun _ _ _ _ _ => pts_nil) (fun _ _ _ _ _ => (pe_callB (k_sum (K := K) rfl) (by rfl) T.sum (by decide +kernel) (pa_cons (pe_lc (own := [("goal", 3)]) rfl nd (k_listI (K := K) (pv 2)) (blkOk_by (by rfl)) (fun _ _ _ _ _ => (pg_name (i := 3) nd rfl (Or.inl rfl))) (fun _ _ _ _ _ => pts_nil) (fun _ _ _ _ _ => (pe_ix (k_ixL (K := K)) (pv 1) (pv 3) (fun _ _ => rfl)))) pa_nil)))))), ?_⟩
    have hG0 := hG
    obtain ⟨qs, g1, g2, g3⟩ := hG
    refine ⟨_, rfl, pg, rfl, ⟨_, SqL.of g1⟩, fun D nD => ?_⟩
    refine lc_valW (walk_list (K := K) (a := pg) (xs := qs.map V.ref)) (by rw [List.length_map]; omega) nD (fun i => V.int ((((rows.getD i []).map fun g => now.getD g 0).sum : Nat) : Int)) (fun H2 s2 => SqL.of (s2 _ _ g1)) ?_ ?_
    · rintro i x H2 H3 hi s2 ⟨rfl, hx⟩ R hR
      rw [List.getElem?_map] at hx
      obtain ⟨b, hb, rfl⟩ := Option.map_eq_some_iff.mp hx
      have hbr := s2 _ _ (g3 i b hb)
      have hi2 : i < rows.length := by rw [← g2]; exact (List.getElem?_eq_some_iff.mp hb).1
      obtain ⟨r1, r2⟩ := l2 (rows.getD i []) (by rw [List.getD_eq_getElem?_getD, List.getElem?_eq_getElem hi2]; exact List.getElem_mem hi2)
      generalize rows.getD i [] = row at hbr r1 r2 hR ⊢
      have hn3 := s2 _ _ hn
      refine ⟨wipe1 _ _ _, ?_⟩
      refine ⟨_, rfl, b, rfl, ⟨_, SqL.of hbr⟩, fun D2 nD2 => ?_⟩
      refine lc_valW (walk_list (K := K) (a := b) (xs := natsV row)) (by rw [natsV_len]; omega) nD2 (fun j => V.int ((now.getD (row.getD j 0) 0 : Nat) : Int)) (fun H4 s4 => SqL.of (s4 _ _ hbr)) ?_ ?_
      · rintro j x H4 H5 hj s4 ⟨rfl, hx⟩ R2 hR2
        obtain ⟨hk, rfl⟩ := natsV_some hx
        have lt := r2 _ (getD_mem hk)
        exact ⟨wipe1 _ _ _, _, rfl, _, rfl, pn, _, _, _, rfl, rfl, SqL.of (s4 _ _ hn3), atI_nat (natsV_at lt), hR2 _ (Same.refl _)⟩
      intro H4 s4 hD2
      have e : (List.range (natsV row).length).map (fun j => V.int ((now.getD (row.getD j 0) 0 : Nat) : Int)) = ((row.map fun g => now.getD g 0).map fun n : Nat => (n : Int)).map V.int := by
        rw [natsV_len, List.map_map, List.map_map]
        refine List.ext_getElem (by simp) fun i h1 h2 => ?_
        have h3 : i < row.length := by simpa using h2
        rw [List.getElem_map, List.getElem_map, List.getElem_range, List.getD_eq_getElem?_getD (l := row), List.getElem?_eq_getElem h3]
        rfl
      rw [e] at hD2
      refine ⟨D2, _, rfl, SqL.of hD2, ?_⟩
      rw [sum_nats]
      exact hR _ s4
    intro H2 s2 hD
    refine q D H2 s2 nD (hD.trans ?_)
    rw [List.length_map, g2]
    unfold lng natsV
    rw [List.map_map]
    refine congrArg (fun l => some (HO.lst l)) (List.ext_getElem (by simp) fun i h1 h2 => ?_)
    have h3 : i < rows.length := by simpa using h2
    rw [List.getElem_map, List.getElem_map, List.getElem_range, List.getD_eq_getElem?_getD (l := rows), List.getElem?_eq_getElem h3]
    rfl
end
end SG

/-! The layers of a format are made. -/
namespace SG
open PySem PySem.Spec PyProof PyProof.Rows L2
local macro_rules
  | `(tactic| clean_wf) => `(tactic| repeat (first | refine ⟨_, rfl, ?_⟩ | refine ⟨rfl, ?_⟩ | refine ⟨_, _, rfl, ?_⟩ | refine ⟨_, _, rfl, rfl, ?_⟩ | refine ⟨_, _, _, rfl, ?_⟩ | refine ⟨_, _, _, _, rfl, ?_⟩))
local macro_rules
  | `(tactic| exists $u:ident, $n:ident, $H:ident, $q:ident, $e:ident) => `(tactic| (refine ⟨by first | exact Nat.zero_le _ | assumption | (simp only [List.length_cons, List.length_nil]; decide), fun $u $n => ?_⟩; generalize hh : upd _ $u _ = $H; obtain ⟨$q, $e⟩ := mkq $n hh; clear hh))
local macro_rules
  | `(tactic| simp_wf) => `(tactic| first | assumption | exact upd_same | (refine (by assumption : Same _ _) _ _ ?_; simp_wf) | (refine (by assumption : Kept _ _ _ _) _ _ ?_ (by assumption) (by assumption); simp_wf))
local macro_rules
  | `(tactic| decreasing_trivial) => `(tactic| first | assumption | exact .inl (.inl (by assumption)) | (refine sameT (by assumption) ?_; decreasing_trivial))
local macro_rules
  | `(tactic| array_get_dec) => `(tactic| first | assumption | (refine CdAt.same (by assumption) ?_; array_get_dec))
/-- pairs (letter, state) stand at ts -/
def PrsAt (K : PySem.W.Frag) (H : Hp) (ts : List Addr) (ps : List (Nat × Nat)) : Prop := ts.length = ps.length ∧ ∀ (k : Nat) (t : Addr), ts[k]? = some t → ∃ p, ps[k]? = some p ∧ SqT K H t [.str (sgn p.1), .int (p.2 : Int)]
theorem PrsAt.same {K : PySem.W.Frag} {H H2 : Hp} {ts : List Addr} {ps : List (Nat × Nat)} (s : Same H H2) (h : PrsAt K H ts ps) : PrsAt K H2 ts ps := ⟨h.1, fun k t e => by
  obtain ⟨p, h1, h2⟩ := h.2 k t e
  exact ⟨p, h1, sameT s h2⟩⟩
/-- lists of pairs, in a list -/
structure PGrid (K : PySem.W.Frag) (H H2 : Hp) (D : Addr) (rows : List (List (Nat × Nat))) (qs : List Addr) : Prop where
  s : Same H H2
  nD : H D = none
  at_ : H2 D = some (.lst (qs.map V.ref))
  len : qs.length = rows.length
  nd : qs.Nodup
  new : ∀ q ∈ qs, H q = none ∧ q ≠ D
  row : ∀ (i : Nat) (q : Addr), qs[i]? = some q → ∃ ts, H2 q = some (.lst (ts.map V.ref)) ∧ PrsAt K H2 ts (rows.getD i [])
section
variable {K : PySem.W.Frag} {H H2 H3 : Hp} {D q : Addr} {rows : List (List (Nat × Nat))} {qs : List Addr}
theorem prs_upd {ts : List Addr} {ps : List (Nat × Nat)} {xs : List V} {o : HO} (hq : H q = some (.lst xs)) (h : PrsAt K H ts ps) : PrsAt K (upd H q o) ts ps := ⟨h.1, fun k t e => by
  obtain ⟨p, h1, h2⟩ := h.2 k t e
  refine ⟨p, h1, ?_⟩
  rcases h2 with (h | ⟨u, h⟩) | h
  · exact .inl (.inl ((upd_ne (fun z => by rw [z, hq] at h; exact nomatch h)).trans h))
  · exact .inl (.inr ⟨u, (upd_ne (fun z => by rw [z, hq] at h; exact nomatch h)).trans h⟩)
  · exact .inr h⟩
theorem prs_add {ts : List Addr} {ps : List (Nat × Nat)} {t : Addr} {p : Nat × Nat} (h : PrsAt K H ts ps) (ht : SqT K H t [.str (sgn p.1), .int (p.2 : Int)]) : PrsAt K H (ts ++ [t]) (ps ++ [p]) := ⟨by rw [List.length_append, List.length_append, h.1]; rfl, fun k u e => by
  by_cases hk : k < ts.length
  · rw [List.getElem?_append_left hk] at e
    obtain ⟨p2, h1, h2⟩ := h.2 k u e
    exact ⟨p2, by rw [List.getElem?_append_left (by rw [← h.1]; exact hk)]; exact h1, h2⟩
  · have h2 := (List.getElem?_eq_some_iff.mp e).1
    rw [List.length_append, List.length_singleton] at h2
    have e1 : k = ts.length := by omega
    subst e1
    rw [List.getElem?_concat_length] at e
    obtain rfl := Option.some.inj e
    exact ⟨p, by rw [h.1, List.getElem?_concat_length], ht⟩⟩
theorem PGrid.later (G : PGrid K H H2 D rows qs) (s : Same H2 H3) : PGrid K H H3 D rows qs := ⟨G.s.trans s, G.nD, s _ _ G.at_, G.len, G.nd, G.new, fun i q e => by
  obtain ⟨ts, h1, h2⟩ := G.row i q e
  exact ⟨ts, s _ _ h1, h2.same s⟩⟩
theorem PGrid.add (G : PGrid K H H2 D rows qs) (nq : H2 q = none) : PGrid K H (upd (upd H2 q (.lst [])) D (.lst (qs.map V.ref ++ [.ref q]))) D (rows ++ [[]]) (qs ++ [q]) := by
  have qD : q ≠ D := fun z => by
    rw [z, G.at_] at nq
    exact nomatch nq
  have out : ∀ i p, qs[i]? = some p → p ≠ q := fun i p e z => by
    obtain ⟨ts, h1, _⟩ := G.row i p e
    rw [z, nq] at h1
    exact nomatch h1
  have hD2 : upd H2 q (.lst []) D = some (.lst (qs.map V.ref)) := (upd_ne (Ne.symm qD)).trans G.at_
  refine ⟨same_upd_of (same_upd_of G.s (G.s.free nq)) G.nD, G.nD, by rw [upd_same, List.map_append]; rfl, by rw [List.length_append, List.length_append, G.len]; rfl, ?_, ?_, ?_⟩
  · refine List.nodup_append.mpr ⟨G.nd, by simp, fun x hx y hy z => ?_⟩
    rw [List.mem_singleton.mp hy] at z
    obtain ⟨i, hi, e⟩ := List.getElem_of_mem hx
    exact out i x (by rw [List.getElem?_eq_getElem hi, e]) z
  · intro p hp
    rcases List.mem_append.mp hp with z | z
    · exact G.new p z
    · rw [List.mem_singleton.mp z]
      exact ⟨G.s.free nq, qD⟩
  · intro i p e
    by_cases hi : i < qs.length
    · rw [List.getElem?_append_left hi] at e
      have hp := G.new p (List.mem_of_getElem? e)
      obtain ⟨ts, h1, h2⟩ := G.row i p e
      refine ⟨ts, by rw [upd_ne hp.2, upd_ne (out i p e), h1], ?_⟩
      rw [List.getD_eq_getElem?_getD, List.getElem?_append_left (by rw [← G.len]; exact hi), ← List.getD_eq_getElem?_getD]
      exact prs_upd hD2 (h2.same (same_new nq))
    · have h2 := (List.getElem?_eq_some_iff.mp e).1
      rw [List.length_append, List.length_singleton] at h2
      have e1 : i = qs.length := by omega
      subst e1
      rw [List.getElem?_concat_length] at e
      obtain rfl := Option.some.inj e
      refine ⟨[], by rw [upd_ne qD, upd_same]; rfl, ?_⟩
      rw [List.getD_eq_getElem?_getD, G.len, List.getElem?_concat_length]
      exact ⟨rfl, fun k t e => nomatch e⟩
theorem PGrid.app {i : Nat} {T : Addr} {p : Nat × Nat} (G : PGrid K H H2 D rows qs) (hq : qs[i]? = some q) (nT : H2 T = none) : ∃ ts : List Addr, H2 q = some (.lst (ts.map V.ref)) ∧ ts.length = (rows.getD i []).length ∧
    PGrid K H (upd (upd H2 T (.tup [.str (sgn p.1), .int (p.2 : Int)])) q (.lst (ts.map V.ref ++ [.ref T]))) D (rows.set i (rows.getD i [] ++ [p])) qs := by
  have hn := G.new q (List.mem_of_getElem? hq)
  obtain ⟨ts, h1, h2⟩ := G.row i q hq
  have sT : Same H2 (upd H2 T (.tup [.str (sgn p.1), .int (p.2 : Int)])) := same_new nT
  refine ⟨ts, h1, h2.1, same_upd_of (G.s.trans sT) hn.1, G.nD, (upd_ne (Ne.symm hn.2)).trans (sT _ _ G.at_), by rw [List.length_set, G.len], G.nd, G.new, fun j r e => ?_⟩
  have hj := (List.getElem?_eq_some_iff.mp e).1
  by_cases z : j = i
  · subst z
    rw [hq] at e
    obtain rfl := Option.some.inj e
    refine ⟨ts ++ [T], by rw [upd_same, List.map_append]; rfl, ?_⟩
    rw [List.getD_eq_getElem?_getD (l := rows.set _ _), List.getElem?_set_self (by rw [← G.len]; exact hj)]
    exact prs_upd (sT _ _ h1) (prs_add (h2.same sT) (.inl (.inl upd_same)))
  · have pq : r ≠ q := fun y => z (by
      rw [y] at e
      exact (List.getElem?_inj hj G.nd).mp (e.trans hq.symm))
    obtain ⟨us, g1, g2⟩ := G.row j r e
    refine ⟨us, by rw [upd_ne pq]; exact sT _ _ g1, ?_⟩
    rw [List.getD_eq_getElem?_getD (l := rows.set _ _), List.getElem?_set_ne (Ne.symm z), ← List.getD_eq_getElem?_getD]
    exact prs_upd (sT _ _ h1) (g2.same sT)
end
/-- for each state its letters with those to which they lead -/
def pairsOf (n : Nat) (ms : List Mv) : List (List (Nat × Nat)) := ms.foldl (fun r m => r.set m.1 (r.getD m.1 [] ++ [m.2])) (List.replicate n [])
theorem prs_len (ms : List Mv) : ∀ r : List (List (Nat × Nat)), (ms.foldl (fun r m => r.set m.1 (r.getD m.1 [] ++ [m.2])) r).length = r.length := by
  induction ms with
  | nil => exact fun _ => rfl
  | cons m ms ih => exact fun r => (ih _).trans (List.length_set ..)
theorem pairsOf_len (n : Nat) (ms : List Mv) : (pairsOf n ms).length = n := (prs_len ms _).trans (List.length_replicate ..)
theorem prs_get (n s : Nat) : ∀ (ms : List Mv) (r : List (List (Nat × Nat))), r.length = n → (∀ m ∈ ms, m.1 < n) → s < n → (ms.foldl (fun r m => r.set m.1 (r.getD m.1 [] ++ [m.2])) r).getD s [] = r.getD s [] ++ (ms.filter fun m => decide (m.1 = s)).map (·.2)
  | [], r, _, _, _ => by simp
  | m :: ms, r, hr, ok, hs => by
    rw [List.foldl_cons, prs_get n s ms _ (by rw [List.length_set, hr]) (fun x hx => ok x (List.mem_cons_of_mem _ hx)) hs]
    have o := ok m List.mem_cons_self
    by_cases z : m.1 = s
    · subst z
      rw [List.filter_cons_of_pos (by simp), List.getD_eq_getElem?_getD (l := r.set _ _), List.getElem?_set_self (by omega)]
      simp
    · rw [List.filter_cons_of_neg (by simp [z]), List.getD_eq_getElem?_getD (l := r.set _ _), List.getElem?_set_ne z, ← List.getD_eq_getElem?_getD]
/-- the letters of a state with those to which they lead -/
def prw (ms : List Mv) (s : Nat) : List (Nat × Nat) := (ms.filter fun m => decide (m.1 = s)).map (·.2)
theorem pairsOf_get {n s : Nat} {ms : List Mv} (ok : ∀ m ∈ ms, m.1 < n) (hs : s < n) : (pairsOf n ms).getD s [] = prw ms s := by
  unfold pairsOf
  rw [prs_get n s ms _ (List.length_replicate ..) ok hs, List.getD_eq_getElem?_getD, List.getElem?_replicate, if_pos hs]
  rfl
def PrAt (K : PySem.W.Frag) (H : Hp) (p : Addr) (n : Nat) (ms : List Mv) : Prop := ∃ qs : List Addr, H p = some (.lst (qs.map V.ref)) ∧ qs.length = n ∧ ∀ (i : Nat) (q : Addr), qs[i]? = some q → ∃ ts, H q = some (.lst (ts.map V.ref)) ∧ PrsAt K H ts (prw ms i)
theorem PrAt.same {K : PySem.W.Frag} {H H2 : Hp} {p : Addr} {n : Nat} {ms : List Mv} (s : Same H H2) (h : PrAt K H p n ms) : PrAt K H2 p n ms := by
  obtain ⟨qs, h1, h2, h3⟩ := h
  refine ⟨qs, s _ _ h1, h2, fun i q e => ?_⟩
  obtain ⟨ts, g1, g2⟩ := h3 i q e
  exact ⟨ts, s _ _ g1, g2.same s⟩
theorem PGrid.prAt {K : PySem.W.Frag} {H H2 : Hp} {D : Addr} {qs : List Addr} {n : Nat} {ms : List Mv} (G : PGrid K H H2 D (pairsOf n ms) qs) (ok : ∀ m ∈ ms, m.1 < n) : PrAt K H2 D n ms := ⟨qs, G.at_, by rw [G.len, pairsOf_len], fun i q e => by
  obtain ⟨ts, h1, h2⟩ := G.row i q e
  refine ⟨ts, h1, ?_⟩
  rw [← pairsOf_get ok (by have := (List.getElem?_eq_some_iff.mp e).1; rw [G.len, pairsOf_len] at this; exact this)]
  exact h2⟩
/-- all but what stands at p -/
def Off (H : Hp) (p : Addr) : Hp := fun b => if b = p then none else H b
theorem off_ne {H : Hp} {p b : Addr} (h : b ≠ p) : Off H p b = H b := if_neg h
theorem off_at {H : Hp} {p : Addr} : Off H p p = none := if_pos rfl
theorem off_le {H : Hp} {p : Addr} : Same (Off H p) H := fun b o e => by
  by_cases h : b = p
  · rw [h, off_at] at e
    exact nomatch e
  · rw [off_ne h] at e
    exact e
theorem off_but {H H2 : Hp} {p : Addr} (k : But p H H2) : Same (Off H p) (Off H2 p) := fun b o e => by
  by_cases h : b = p
  · rw [h, off_at] at e
    exact nomatch e
  · rw [off_ne h] at e ⊢
    exact k b o e h
/-- the layers at a, all but their list, that stands at pl -/
def LyI (K : PySem.W.Frag) (Z : Ads) (B : Hp) (a pl : Addr) (n : Nat) (ms : List Mv) (es : List Nat) : Prop := ∃ (dx f pg pm : Addr) (fs : List (Str × V)), B a = some (.ins Z.cL dx fs) ∧ fs.lookup ("form" : Str) = some (.ref f) ∧ fs.lookup ("goal_rows" : Str) = some (.ref pg) ∧ fs.lookup ("layers" : Str) = some (.ref pl) ∧ fs.lookup ("moves" : Str) = some (.ref pm) ∧
    (∀ m ∈ (["at", "count_of", "shorter", "weights", "lesser", "word_of", "place_of"] : List Str), fs.lookup m = none) ∧ FmAt K Z.cF B f n ms es ∧ RowsAt B pg (rowsOf n ms) ∧ PrAt K B pm n ms
theorem refs_inj : ∀ {a b : List Addr}, a.map V.ref = b.map V.ref → a = b
  | [], [], _ => rfl
  | [], b :: bs, h => nomatch h
  | a :: as, [], h => nomatch h
  | a :: as, b :: bs, h => by
    injection h with h1 h2
    injection h1 with h1
    rw [h1, refs_inj h2]
theorem but_sqL {K : PySem.W.Frag} {p : Addr} {H H2 : Hp} {xs : List V} (k : But p H H2) (hp : H p = some (.lst xs)) {a : Addr} {zs : List V} (h : SqT K H a zs) : SqT K H2 a zs := by
  rcases h with (h | ⟨o, h⟩) | h
  · exact .inl (.inl (k _ _ h (ne_of h hp nofun)))
  · exact .inl (.inr ⟨o, k _ _ h (ne_of h hp nofun)⟩)
  · exact .inr h
/-- a format stays when something else is changed -/
theorem FmAt.alt {K : PySem.W.Frag} {C p : Addr} {H H2 : Hp} {a : Addr} {n : Nat} {ms : List Mv} {es : List Nat} {o : HO} (k : But p H H2) (hp : H p = some o) (sq : ∀ {b : Addr} {zs : List V}, SqT K H b zs → SqT K H2 b zs) (nk : ∀ kvs, o ≠ .dK kvs) (nt : ∀ kvs, o ≠ .dT kvs) (na : a ≠ p) (h : FmAt K C H a n ms es) : FmAt K C H2 a n ms es := by
  obtain ⟨O, dx, am, ae, de, fs, h1, h2, h3, h4, h5, ⟨ps, m1, m2, m3⟩, h7, h8, ⟨dg, au, us, kvs, x1, x2, x3, x4, x5, x6⟩, h9⟩ := h
  refine ⟨O, dx, am, ae, de, fs, k _ _ h1 na, h2, h3, h4, h5, ⟨ps, sq m1, m2, fun i q e => ?_⟩, sq h7, k _ _ h8 ?_, ⟨dg, au, us, kvs, x1, x2, k _ _ x3 ?_, x4, sq x5, x6⟩, h9⟩
  · obtain ⟨m, g1, g2⟩ := m3 i q e
    exact ⟨m, g1, sq g2⟩
  · intro z
    rw [z, hp] at h8
    exact nk _ (Option.some.inj h8)
  · intro z
    rw [z, hp] at x3
    exact nt _ (Option.some.inj x3)
theorem FmAt.butI {K : PySem.W.Frag} {C C2 p dx : Addr} {H H2 : Hp} {a : Addr} {n : Nat} {ms : List Mv} {es : List Nat} {fs : List (Str × V)} (k : But p H H2) (hp : H p = some (.ins C2 dx fs)) (na : a ≠ p) (h : FmAt K C H a n ms es) : FmAt K C H2 a n ms es :=
  h.alt k hp (but_sqT k hp) nofun nofun na
theorem FmAt.butL {K : PySem.W.Frag} {C p : Addr} {H H2 : Hp} {a : Addr} {n : Nat} {ms : List Mv} {es : List Nat} {xs : List V} (k : But p H H2) (hp : H p = some (.lst xs)) (h : FmAt K C H a n ms es) : FmAt K C H2 a n ms es := by
  have na : a ≠ p := by
    obtain ⟨_, _, _, _, _, _, h1, _⟩ := h
    exact ne_of h1 hp nofun
  exact h.alt k hp (but_sqL k hp) nofun nofun na
theorem RowsAt.butI {C2 p dx : Addr} {H H2 : Hp} {a : Addr} {rows : List (List Nat)} {fs : List (Str × V)} (k : But p H H2) (hp : H p = some (.ins C2 dx fs)) (h : RowsAt H a rows) : RowsAt H2 a rows := by
  obtain ⟨qs, h1, h2, h3⟩ := h
  exact ⟨qs, k _ _ h1 (ne_of h1 hp nofun), h2, fun i q e => k _ _ (h3 i q e) (ne_of (h3 i q e) hp nofun)⟩
theorem but_off {a p : Addr} {J H : Hp} (k : But a J H) (np : J p = none) : But a J (Off H p) := fun b o e h => by
  rw [off_ne (ne_of_none e np)]
  exact k b o e h
theorem PGrid.offAt {K : PySem.W.Frag} {H H2 : Hp} {D pl : Addr} {qs : List Addr} {xs : List V} {n : Nat} {ms : List Mv} (G : PGrid K H H2 D (pairsOf n ms) qs) (hp : H pl = some (.lst xs)) (ok : ∀ m ∈ ms, m.1 < n) : PrAt K (Off H2 pl) D n ms := by
  have Dp : D ≠ pl := fun z => by
    have := G.nD
    rw [z, hp] at this
    exact nomatch this
  have k : But pl H2 (Off H2 pl) := fun b o e h => by rw [off_ne h]; exact e
  have h2 := G.s _ _ hp
  obtain ⟨qs2, h1, h3, h4⟩ := G.prAt ok
  have eqs : qs2 = qs := by
    have z := h1.symm.trans G.at_
    injection z with z
    injection z with z
    exact refs_inj z
  subst eqs
  refine ⟨qs2, k _ _ h1 Dp, h3, fun i q e => ?_⟩
  obtain ⟨ts, g1, g2, g3⟩ := h4 i q e
  refine ⟨ts, k _ _ g1 (fun z => ?_), g2, fun j t e2 => ?_⟩
  · have := (G.new q (List.mem_of_getElem? e)).1
    rw [z, hp] at this
    exact nomatch this
  · obtain ⟨p, y1, y2⟩ := g3 j t e2
    exact ⟨p, y1, but_sqL k h2 y2⟩
/-- layers stand at a, so far of those lengths whose counts stand at qs, their list at pl; B: what never changes -/
structure LyAt (K : PySem.W.Frag) (Z : Ads) (B H : Hp) (a pl : Addr) (n : Nat) (ms : List Mv) (es : List Nat) (qs : List Addr) : Prop where
  sB : Same B H
  np : B pl = none
  at_ : H pl = some (.lst (qs.map V.ref))
  pos : 1 ≤ qs.length
  ins : LyI K Z B a pl n ms es
  lay : ∀ (i : Nat) (q : Addr), qs[i]? = some q → H q = some (.lst (natsV (cAt n ms es i))) ∧ q ≠ pl
section
variable {P : Program} {w : World} {K : PySem.W.Frag} {mg : Str → Option Value} {base : Heap} {Z : Ads}
def spLayers (K : PySem.W.Frag) (Z : Ads) : Sp := fun vs H Q _ => ∃ (a dx f : Addr) (n : Nat) (ms : List Mv) (es : List Nat), vs = [.ref a, .ref f] ∧ H a = some (.ins Z.cL dx []) ∧ FmAt K Z.cF H f n ms es ∧
  ∀ (pl : Addr) (H2 : Hp), But a H H2 → H pl = none → (∃ B qs, qs.length = 1 ∧ LyAt K Z B H2 a pl n ms es qs) → Q .non H2
theorem fo_layers {f1 f2 : Addr} {fd fd0 fd1 fd2 : FuncData} (F : Fun K "__init__" "Layers.__init__" s_Layers___init__ Z.fL fd) (U : Own K mg Z) (F_Format_is_end : Fun K "is_end" "Format.is_end" s_Format_is_end Z.ie fd0) (b_Format_is_end : Binds K fd0 ["self", "state"] [])
    (F_goals_by_state : Fun K "goals_by_state" "goals_by_state" s_goals_by_state f1 fd1) (m_goals_by_state : mg "goals_by_state" = some (.ref f1)) (b_goals_by_state : Binds K fd1 ["form"] []) (F_counts_at_ends : Fun K "counts_at_ends" "counts_at_ends" s_counts_at_ends f2 fd2) (m_counts_at_ends : mg "counts_at_ends" = some (.ref f2)) (b_counts_at_ends : Binds K fd2 ["form"] []) (T : Txt mg) :
    FnOk P w K mg base CX0 3 Z.fL fd ["self", "form"] (spLayers K Z) := by
  have G_goals_by_state : FnOk P w K mg base CX0 1 f1 fd1 ["form"] (spGbs K Z.cF) := fo_gbs F_goals_by_state U T
  have G_counts_at_ends : FnOk P w K mg base CX0 2 f2 fd2 ["form"] (spEndC K Z.cF) := fo_endC F_counts_at_ends F_Format_is_end b_Format_is_end U T
  refine F.ok sc_Layers___init__ (fun vs H Q E h => ?_) (fun cdv A outer s H vs Q E hr h => ?_)
  · obtain ⟨a, dx, f, n, ms, es, rfl, _⟩ := h
    rfl
  · obtain ⟨a, dx, f, n, ms, es, rfl, ha, hF, q⟩ := h
    have nd := sc_Layers___init__.nd
    refine ⟨_, (pss_cons (ps_fld (pv 0) (pv 1) rfl)
      (pss_cons (ps_fld (pv 0) (pe_call G_goals_by_state (hr.mono (by decide)) (by rfl) m_goals_by_state F_goals_by_state.kp b_goals_by_state .nil pass0 (pa_cons (pv 1) pa_nil)) rfl)
      (pss_cons (ps_fld (pv 0) (pe_lst (pa_cons (pe_call G_counts_at_ends (hr.mono (by decide)) (by rfl) m_counts_at_ends F_counts_at_ends.kp b_counts_at_ends .nil pass0 (pa_cons (pv 1) pa_nil)) pa_nil)) rfl)
      (pss_cons (ps_fld (pv 0) (pe_lc (own := [("_", 5)]) rfl nd (pi_range1 rfl T.range (pa_cons (k_fld (K := K) (pv 1)) pa_nil)) (blkOk_by (N := N_Layers___init__) (sc := defScope s_Layers___init__) (by decide +kernel)) (fun _ _ _ _ _ => (pg_name (i := 5) nd rfl (Or.inl rfl))) (fun _ _ _ _ _ => pts_nil) (fun _ _ _ _ _ => (pe_lst pa_nil))) rfl)
      (pss_one (ps_for PassesOwn.never rfl (pi_tup (k_fld (K := K) (pv 1))) (k_tg (K := K) (n := 3) rfl (pgs_cons (pg_name (i := 2) nd rfl (Or.inl rfl)) (pgs_cons (pg_name (i := 3) nd rfl (Or.inl rfl)) (pgs_cons (pg_name (i := 4) nd rfl (Or.inl rfl)) pgs_nil))))
        (pss_one (ps_expr (pe_bm PySem.F.plainAttrs_list PySem.F.slot_list_append PySem.F.type_list_append mt_append (pe_ix (k_ixL (K := K)) (k_fld (K := K) (pv 0)) (pv 2) (fun _ _ => rfl)) (pa_cons (pe_tup (pa_cons (pv 3) (pa_cons (pv 4) pa_nil))) pa_nil)))))))))), ?_⟩
    have af : f ≠ a := fun z => by
      obtain ⟨_, _, _, _, _, fs, h1, h2, _⟩ := hF
      rw [z, ha] at h1
      injection h1 with h1
      injection h1 with _ _ h1
      rw [← h1] at h2
      exact nomatch h2
    have S1 := SelfAt.init ha
    clean_wf
    refine ⟨a, Z.cL, dx, _, rfl, S1.at_, U.cL, U.la _ (by simp), by decide, ?_⟩
    have S2 := S1.put "form" (V.ref f)
    have F2 := hF.butI S2.k ha af
    clean_wf
    generalize upd H a _ = H2 at S2 F2 ⊢
    refine ⟨f, n, ms, es, rfl, F2, fun pg H3 s3 hg => ?_⟩
    have S3 := S2.later s3
    refine ⟨_, rfl, a, Z.cL, dx, _, rfl, S3.at_, U.cL, U.la _ (by simp), by show 1 < 1000; decide, ?_⟩
    have S4 := S3.put "goal_rows" (V.ref pg)
    have k34 : But a H3 (upd H3 a (.ins Z.cL dx (putF "goal_rows" (V.ref pg) (putF "form" (V.ref f) [])))) := fun b o e h => by rw [upd_ne h]; exact e
    have F4 := (F2.same s3).butI k34 S3.at_ af
    have G4 := hg.butI k34 S3.at_
    clean_wf
    generalize upd H3 a _ = H4 at S4 F4 G4 ⊢
    refine ⟨f, n, ms, es, rfl, F4, fun pn J s5 hn => ?_⟩
    have F5 := F4.same s5
    have G5 := G4.same s5
    have S5 := S4.later s5
    clear k34 hg F2 S3 S2
    refine ⟨by show 1 ≤ sizeLine; decide, fun pl npl => ?_⟩
    have S6 := S5.later (same_new (o := .lst [V.ref pn]) npl)
    have h6 : upd J pl (.lst [V.ref pn]) pl = some (.lst [V.ref pn]) := upd_same
    have kJ6 : But a J (upd J pl (.lst [V.ref pn])) := fun b o e _ => same_new npl _ _ e
    generalize upd J pl _ = H6 at S6 h6 kJ6 ⊢
    refine ⟨_, rfl, a, Z.cL, dx, _, rfl, S6.at_, U.cL, U.la _ (by simp), by show 2 < 1000; decide, ?_⟩
    have S7 := S6.put "layers" (V.ref pl)
    have apl : pl ≠ a := fun z => by
      rw [z, S5.at_] at npl
      exact nomatch npl
    have h7 : upd H6 a (.ins Z.cL dx (putF "layers" (V.ref pl) (putF "goal_rows" (V.ref pg) (putF "form" (V.ref f) [])))) pl = some (.lst [V.ref pn]) := (upd_ne apl).trans h6
    have kJ7 : But a J (upd H6 a (.ins Z.cL dx (putF "layers" (V.ref pl) (putF "goal_rows" (V.ref pg) (putF "form" (V.ref f) []))))) := fun b o e h => by rw [upd_ne h]; exact kJ6 b o e h
    clean_wf
    generalize upd H6 a _ = H7 at S7 h7 kJ7 ⊢
    have F7 := F5.butI kJ7 S5.at_ af
    obtain ⟨O, dxf, am, ae, de, fsf, f1', f2', f3, f4, f5, f6, f7, f8, fx, f9⟩ := F7
    have nl := O.nl
    refine ⟨f, Z.cF, dxf, _, _, rfl, f1', U.cl, U.fa _ (by simp), f2', ?_⟩
    refine ⟨_, rfl, by omega, by omega, fun D nD => ?_⟩
    rw [Int.toNat_natCast]
    refine lc_it (walk_range (lo := 0) (n := n)) (fun i HI => ∃ qs, PGrid K H7 HI D (List.replicate i []) qs) ⟨[], same_new nD, nD, upd_same, rfl, List.nodup_nil, (fun q hq => nomatch hq), (fun i q e => nomatch e)⟩ (fun _ _ _ _ => trivial) ?_ ?_
    · rintro i x H8 H9 hi ⟨qs, G⟩ ⟨rfl, rfl⟩
      refine ⟨wipe1 _ _ _, yesI ⟨by decide, fun q nq => ?_⟩⟩
      have ql : (qs.map V.ref).length < sizeLine := Nat.lt_of_lt_of_le (show (qs.map V.ref).length < 1001 by rw [List.length_map, G.len, List.length_replicate]; omega) (by decide)
      have qD : q ≠ D := fun z => by
        rw [z, G.at_] at nq
        exact nomatch nq
      refine ⟨_, (upd_ne (Ne.symm qD)).trans G.at_, ql, qs ++ [q], ?_⟩
      rw [List.replicate_succ']
      exact G.add nq
    rintro H8 ⟨qs, G8⟩
    have S8 := S7.later G8.s
    refine ⟨_, rfl, a, Z.cL, dx, _, rfl, S8.at_, U.cL, U.la _ (by simp), by show 3 < 1000; decide, ?_⟩
    have S9 := S8.put "moves" (V.ref D)
    -- the grid over the finished thing
    have aD : D ≠ a := fun z => by
      rw [z, S7.at_] at nD
      exact nomatch nD
    have nqa : ∀ q ∈ qs, q ≠ a := fun q hq z => by
      have := (G8.new q hq).1
      rw [z, S7.at_] at this
      exact nomatch this
    have G9 : PGrid K (upd H7 a (.ins Z.cL dx (putF "moves" (V.ref D) (putF "layers" (V.ref pl) (putF "goal_rows" (V.ref pg) (putF "form" (V.ref f) [])))))) (upd H8 a (.ins Z.cL dx (putF "moves" (V.ref D) (putF "layers" (V.ref pl) (putF "goal_rows" (V.ref pg) (putF "form" (V.ref f) [])))))) D (List.replicate n []) qs := by
      refine ⟨fun b o e => ?_, (upd_ne aD).trans nD, (upd_ne aD).trans G8.at_, G8.len, G8.nd, fun q hq => ⟨(upd_ne (nqa q hq)).trans (G8.new q hq).1, (G8.new q hq).2⟩, fun i q e => ?_⟩
      · by_cases h : b = a
        · subst h
          rw [upd_same] at e ⊢
          exact e
        · rw [upd_ne h] at e ⊢
          exact G8.s b o e
      · obtain ⟨ts, g1, g2⟩ := G8.row i q e
        refine ⟨ts, (upd_ne (nqa q (List.mem_of_getElem? e))).trans g1, ?_⟩
        rw [List.getD_eq_getElem?_getD, List.getElem?_replicate] at g2 ⊢
        have hi : i < n := by
          have := (List.getElem?_eq_some_iff.mp e).1
          rw [G8.len, List.length_replicate] at this
          exact this
        rw [if_pos hi] at g2 ⊢
        have tl := g2.1
        obtain rfl : ts = [] := List.eq_nil_of_length_eq_zero tl
        exact ⟨rfl, fun k t e => nomatch e⟩
    have a9 := S9.at_
    have h79 : upd H7 a (.ins Z.cL dx (putF "moves" (V.ref D) (putF "layers" (V.ref pl) (putF "goal_rows" (V.ref pg) (putF "form" (V.ref f) []))))) pl = some (.lst [V.ref pn]) := (upd_ne apl).trans h7
    have kJ79 : But a J (upd H7 a (.ins Z.cL dx (putF "moves" (V.ref D) (putF "layers" (V.ref pl) (putF "goal_rows" (V.ref pg) (putF "form" (V.ref f) [])))))) := fun b o e h => by rw [upd_ne h]; exact kJ7 b o e h
    have a79 : upd H7 a (.ins Z.cL dx (putF "moves" (V.ref D) (putF "layers" (V.ref pl) (putF "goal_rows" (V.ref pg) (putF "form" (V.ref f) []))))) a = some (.ins Z.cL dx (putF "moves" (V.ref D) (putF "layers" (V.ref pl) (putF "goal_rows" (V.ref pg) (putF "form" (V.ref f) []))))) := upd_same
    have k9 : But a H (upd H7 a (.ins Z.cL dx (putF "moves" (V.ref D) (putF "layers" (V.ref pl) (putF "goal_rows" (V.ref pg) (putF "form" (V.ref f) [])))))) := fun b o e h => by rw [upd_ne h]; exact S7.k b o e h
    have nplH : H pl = none := by
      cases e : H pl with
      | none => rfl
      | some o =>
        have z := S5.k pl o e apl
        rw [npl] at z
        exact nomatch z
    clean_wf
    generalize upd H7 a _ = H79 at G9 h79 kJ79 a79 k9
    generalize upd H8 a _ = H9 at S9 G9 a9 ⊢
    clear G8 S8 h7 kJ7 S7 f1' f6 f7 f8 fx nD S6 kJ6 h6
    have F79 := F5.butI kJ79 S5.at_ af
    have F79' := F79
    obtain ⟨_, dxf, am, ae, de, fsf, f1', f2', f3, f4, f5, f6, f7, f8, fx, f9⟩ := F79
    refine ⟨f, Z.cF, dxf, _, _, rfl, G9.s _ _ f1', U.cl, U.fa _ (by simp), f3, am, rfl, ?_⟩
    obtain ⟨ps, hT, lps, hms⟩ := f6
    refine ⟨⟨_, sameT G9.s hT⟩, ?_⟩
    refine for_it (walk_tup (K := K) (a := am) (xs := ps.map V.ref)) (fun i σ HI => ∃ (y2 y3 y4 : Option V), σ = [some (.ref a), some (.ref f), y2, y3, y4, none] ∧ PGrid K H79 HI D (pairsOf n (ms.take i)) qs) ⟨none, none, none, rfl, G9⟩ (fun i σ H2 _ h => by obtain ⟨_, _, _, _, h⟩ := h; exact sameT h.s hT) ?_ ?_
    · rintro i x σ H10 H11 hi ⟨y2, y3, y4, rfl, G⟩ ⟨rfl, hx⟩
      rw [List.length_map, lps] at hi
      rw [List.getElem?_map] at hx
      obtain ⟨p, hp, rfl⟩ := Option.map_eq_some_iff.mp hx
      obtain ⟨m, gm, am2⟩ := hms i p hp
      obtain ⟨o1, o2, o3⟩ := O.ok m (List.mem_of_getElem? gm)
      have ml := O.ml
      have lq : m.1 < qs.length := by rw [G.len, pairsOf_len]; exact o1
      have hq : qs[m.1]? = some qs[m.1] := List.getElem?_eq_getElem lq
      refine ⟨p, _, rfl, sameT G.s am2, rfl, _, _, rfl, _, _, rfl, _, _, rfl, rfl, ?_⟩
      refine ⟨_, rfl, a, Z.cL, dx, _, _, rfl, G.s _ _ a79, U.cL, U.la _ (by simp), by rw [lookup_putF, if_pos rfl], _, rfl, ?_⟩
      obtain ⟨ts0, t1, t2⟩ := G.row _ _ hq
      refine ⟨D, _, _, .ref qs[m.1], rfl, rfl, SqL.of G.at_, atI_nat (by rw [List.getElem?_map, hq]; rfl), .inl ⟨rfl, _, SqL.of t1⟩, ?_⟩
      refine ⟨_, rfl, _, rfl, (by show 2 ≤ sizeLine; decide), fun T nT => ?_⟩
      obtain ⟨ts, u1, u2, u3⟩ := G.app (p := m.2) hq nT
      refine ⟨_, _, _, rfl, rfl, (upd_ne (ne_of_none u1 nT)).trans u1, ?_, _, _, _, rfl, ?_⟩
      · rw [List.length_map, u2, pairsOf_get (fun x hx => (O.ok x (List.mem_of_mem_take hx)).1) o1]
        unfold prw
        rw [List.length_map]
        refine Nat.lt_of_le_of_lt (List.length_filter_le _ _) (Nat.lt_of_lt_of_le (show (ms.take i).length < 1001 by rw [List.length_take]; omega) (by decide))
      have e : pairsOf n (ms.take (i + 1)) = (pairsOf n (ms.take i)).set m.1 ((pairsOf n (ms.take i)).getD m.1 [] ++ [m.2]) := by
        unfold pairsOf
        rw [List.take_add_one, gm, List.foldl_append]
        rfl
      rw [e]
      exact u3
    rintro σ H10 ⟨y2, y3, y4, rfl, G⟩
    rw [List.length_map, lps, List.take_length] at G
    have kJ10 : But a J H10 := fun b o e h => G.s _ _ (kJ79 b o e h)
    have kO : But a J (Off H10 pl) := but_off kJ10 npl
    refine q pl H10 (fun b o e h => G.s _ _ (k9 b o e h)) nplH ⟨Off H10 pl, [pn], rfl, ⟨off_le, off_at, G.s _ _ h79, Nat.le_refl _, ⟨dx, f, pg, D, putF "moves" (V.ref D) (putF "layers" (V.ref pl) (putF "goal_rows" (V.ref pg) (putF "form" (V.ref f) []))), ?_, ?_, ?_, ?_, ?_, ?_, F5.butI kO S5.at_ af, G5.butI kO S5.at_, G.offAt h79 fun m hm => (O.ok m hm).1⟩, fun i q e => ?_⟩⟩
    · rw [off_ne (Ne.symm apl)]
      exact G.s _ _ a79
    · rw [lookup_putF, if_neg (by decide +kernel), lookup_putF, if_neg (by decide +kernel), lookup_putF, if_neg (by decide +kernel), lookup_putF, if_pos rfl]
    · rw [lookup_putF, if_neg (by decide +kernel), lookup_putF, if_neg (by decide +kernel), lookup_putF, if_pos rfl]
    · rw [lookup_putF, if_neg (by decide +kernel), lookup_putF, if_pos rfl]
    · rw [lookup_putF, if_pos rfl]
    · intro m hm
      simp only [List.mem_cons, List.not_mem_nil, or_false] at hm
      rcases hm with rfl | rfl | rfl | rfl | rfl | rfl | rfl <;> (rw [lookup_putF, if_neg (by decide +kernel), lookup_putF, if_neg (by decide +kernel), lookup_putF, if_neg (by decide +kernel), lookup_putF, if_neg (by decide +kernel)]; rfl)
    · match i, e with
      | 0, e =>
        obtain rfl := Option.some.inj e
        refine ⟨kJ10 _ _ hn (ne_of hn S5.at_ nofun), fun z => ?_⟩
        rw [z, npl] at hn
        exact nomatch hn
      | i + 1, e => exact nomatch e
end
end SG

/-! Layers grow. -/
namespace SG
open PySem PySem.Spec PyProof PyProof.Rows L2
local macro_rules
  | `(tactic| clean_wf) => `(tactic| repeat (first | refine ⟨_, rfl, ?_⟩ | refine ⟨rfl, ?_⟩ | refine ⟨_, _, rfl, ?_⟩ | refine ⟨_, _, rfl, rfl, ?_⟩ | refine ⟨_, _, _, rfl, ?_⟩ | refine ⟨_, _, _, _, rfl, ?_⟩))
local macro_rules
  | `(tactic| exists $u:ident, $n:ident, $H:ident, $q:ident, $e:ident) => `(tactic| (refine ⟨by first | exact Nat.zero_le _ | assumption | (simp only [List.length_cons, List.length_nil]; decide), fun $u $n => ?_⟩; generalize hh : upd _ $u _ = $H; obtain ⟨$q, $e⟩ := mkq $n hh; clear hh))
local macro_rules
  | `(tactic| simp_wf) => `(tactic| first | assumption | exact upd_same | (refine (by assumption : Same _ _) _ _ ?_; simp_wf) | (refine (by assumption : Kept _ _ _ _) _ _ ?_ (by assumption) (by assumption); simp_wf))
local macro_rules
  | `(tactic| decreasing_trivial) => `(tactic| first | assumption | exact .inl (.inl (by assumption)) | (refine sameT (by assumption) ?_; decreasing_trivial))
local macro_rules
  | `(tactic| array_get_dec) => `(tactic| first | assumption | (refine CdAt.same (by assumption) ?_; array_get_dec))
section
variable {K : PySem.W.Frag} {Z : Ads} {B H H2 : Hp} {a pl D : Addr} {n m : Nat} {ms : List Mv} {es : List Nat} {qs : List Addr} {o : HO}
theorem LyAt.same (s : Same H H2) (h : LyAt K Z B H a pl n ms es qs) : LyAt K Z B H2 a pl n ms es qs := ⟨h.sB.trans s, h.np, s _ _ h.at_, h.pos, h.ins, fun i q e => ⟨s _ _ (h.lay i q e).1, (h.lay i q e).2⟩⟩
theorem LyAt.put (h : LyAt K Z B H a pl n ms es qs) (nB : B D = none) (npl : D ≠ pl) (nq : D ∉ qs) : LyAt K Z B (upd H D o) a pl n ms es qs := ⟨same_upd_of h.sB nB, h.np, (upd_ne (Ne.symm npl)).trans h.at_, h.pos, h.ins, fun i q e =>
  ⟨(upd_ne (fun z => nq (by rw [← z]; exact List.mem_of_getElem? e))).trans (h.lay i q e).1, (h.lay i q e).2⟩⟩
theorem LyAt.free (h : LyAt K Z B H a pl n ms es qs) (nD : H D = none) : B D = none ∧ D ≠ pl ∧ D ∉ qs := by
  refine ⟨h.sB.free nD, fun z => ?_, fun hm => ?_⟩
  · rw [z, h.at_] at nD
    exact nomatch nD
  · obtain ⟨i, hi, e⟩ := List.getElem_of_mem hm
    have := (h.lay i D (by rw [List.getElem?_eq_getElem hi, e])).1
    rw [this] at nD
    exact nomatch nD
theorem but_same {p : Addr} {H H2 H3 : Hp} (k : But p H H2) (s : Same H2 H3) : But p H H3 := fun b o e h => s _ _ (k b o e h)
theorem but_trans {p : Addr} {H H2 H3 : Hp} (k : But p H H2) (s : But p H2 H3) : But p H H3 := fun b o e h => s _ _ (k b o e h) h
theorem but_of {p : Addr} {H H2 : Hp} (s : Same H H2) : But p H H2 := fun b o e _ => s b o e
theorem but_free {p b : Addr} {H H2 : Hp} (k : But p H H2) (h : H2 b = none) (hb : b ≠ p) : H b = none := by
  cases e : H b with
  | none => rfl
  | some o => rw [k b o e hb] at h; exact nomatch h
end
/-- more layers: those that were there, and new ones -/
def Grown (H : Hp) (qs qs2 : List Addr) : Prop := ∃ r, qs2 = qs ++ r ∧ ∀ q ∈ r, H q = none
theorem Grown.refl {H : Hp} {qs : List Addr} : Grown H qs qs := ⟨[], (List.append_nil _).symm, fun q h => nomatch h⟩
theorem Grown.trans {p : Addr} {H H2 : Hp} {qs qs2 qs3 : List Addr} (k : But p H H2) (hp : H2 p ≠ none) (a : Grown H qs qs2) (b : Grown H2 qs2 qs3) : Grown H qs qs3 := by
  obtain ⟨r, rfl, h1⟩ := a
  obtain ⟨t, rfl, h2⟩ := b
  refine ⟨r ++ t, List.append_assoc .., fun q hq => ?_⟩
  rcases List.mem_append.mp hq with z | z
  · exact h1 q z
  · have e := h2 q z
    exact but_free k e fun y => hp (y ▸ e)
theorem Grown.out {D : Addr} {H : Hp} {o : HO} {qs qs2 : List Addr} (a : Grown H qs qs2) (h : D ∉ qs) (hD : H D = some o) : D ∉ qs2 := by
  obtain ⟨r, rfl, h1⟩ := a
  intro hm
  rcases List.mem_append.mp hm with z | z
  · exact h z
  · have := h1 D z
    rw [hD] at this
    exact nomatch this
section
variable {P : Program} {w : World} {K : PySem.W.Frag} {mg : Str → Option Value} {base : Heap} {Z : Ads}
def spAt (K : PySem.W.Frag) (Z : Ads) : Sp := fun vs H Q _ => ∃ (B : Hp) (a pl : Addr) (n : Nat) (ms : List Mv) (es : List Nat) (qs : List Addr) (len : Nat), vs = [.ref a, .int len] ∧ LyAt K Z B H a pl n ms es qs ∧ qs.length ≤ 2000 ∧ len ≤ 1000 ∧
  ∀ (q : Addr) (qs2 : List Addr) (H2 : Hp), But pl H H2 → LyAt K Z B H2 a pl n ms es qs2 → Grown H qs qs2 → qs2.length ≤ 2000 → H2 q = some (.lst (natsV (cAt n ms es len))) → q ∈ qs2 → Q (.ref q) H2
theorem fo_at {f1 : Addr} {fd fd1 : FuncData} (F : Fun K "at" "Layers.at" s_Layers_at Z.lat fd) (U : Own K mg Z) (F_longer : Fun K "longer" "longer" s_longer f1 fd1) (m_longer : mg "longer" = some (.ref f1)) (b_longer : Binds K fd1 ["goals", "now"] []) (T : Txt mg) :
    FnOk P w K mg base CX0 2 Z.lat fd ["self", "length"] (spAt K Z) := by
  have G_longer : FnOk P w K mg base CX0 1 f1 fd1 ["goals", "now"] (spLng K) := fo_lng F_longer T
  refine F.ok sc_Layers_at (fun vs H Q E h => ?_) (fun cdv A outer s H vs Q E hr h => ?_)
  · obtain ⟨B, a, pl, n, ms, es, m, len, rfl, _⟩ := h
    rfl
  · obtain ⟨B, a, pl, n, ms, es, qs0, len, rfl, hL, hm, hlen, q⟩ := h
    have nd := sc_Layers_at.nd
    refine ⟨_, (pss_cons (ps_while PassesOwn.never (pt_cmpR op_le (pe_callB (k_len (K := K)) (by rfl) T.len (by decide +kernel) (pa_cons (k_fld (K := K) (pv 0)) pa_nil)) (pv 1) (nomark _)) (pss_one (ps_expr (pe_bm PySem.F.plainAttrs_list PySem.F.slot_list_append PySem.F.type_list_append mt_append (k_fld (K := K) (pv 0)) (pa_cons (pe_call G_longer (hr.mono (by decide)) (by rfl) m_longer F_longer.kp b_longer .nil pass0 (pa_cons (k_fld (K := K) (pv 0)) (pa_cons (pe_ix (k_ixL (K := K)) (k_fld (K := K) (pv 0)) (pe_un un_neg pe_int) (fun _ _ => rfl)) pa_nil))) pa_nil)))))
      (pss_one (ps_ret (pe_ix (k_ixL (K := K)) (k_fld (K := K) (pv 0)) (pv 1) (fun _ _ => rfl))))), ?_⟩
    refine ⟨fun M σ H2 => ∃ qs, σ = [some (.ref a), some (.int len)] ∧ M = len + 1 - qs.length ∧ But pl H H2 ∧ LyAt K Z B H2 a pl n ms es qs ∧ Grown H qs0 qs ∧ qs.length ≤ 2000, ⟨_, qs0, rfl, rfl, fun _ _ e _ => e, hL, .refl, hm⟩, ?_⟩
    rintro M σ H2 ⟨qs, rfl, rfl, k2, hL2, gr, l2⟩
    have h1 := hL2.at_
    have h3 := hL2.pos
    obtain ⟨dx, f, pg, pm, fs, c1, c2, c3, c4, c5, c6, c7, c8, c9⟩ := hL2.ins
    have a2 := hL2.sB _ _ c1
    have O := c7.1
    have nl := O.nl
    refine ⟨_, rfl, a, Z.cL, dx, _, _, rfl, a2, U.cL, U.la _ (by simp), c4, pl, _, rfl, .inl (SqL.of h1), _, rfl, _, _, rfl, rfl, _, rfl, ?_⟩
    have ql : (qs.map V.ref).length = qs.length := List.length_map ..
    rw [ql]
    by_cases le : qs.length ≤ len
    case neg =>
      refine ifF (decide_eq_false (by omega)) ?_
      have lq : len < qs.length := by omega
      have hq : qs[len]? = some qs[len] := List.getElem?_eq_getElem lq
      refine ⟨_, rfl, a, Z.cL, dx, _, _, rfl, a2, U.cL, U.la _ (by simp), c4, _, rfl, pl, _, _, .ref qs[len], rfl, rfl, SqL.of h1, atI_nat (by rw [List.getElem?_map, hq]; rfl), ?_⟩
      exact q _ qs H2 k2 hL2 gr l2 (hL2.lay _ _ hq).1 (List.getElem_mem lq)
    refine ifT (decide_eq_true (by omega)) ?_
    refine ⟨fun σ H3 => σ = [some (.ref a), some (.int len)] ∧ ∃ p, H2 p = none ∧ But pl H H3 ∧ LyAt K Z B H3 a pl n ms es (qs ++ [p]), fun σ' H' ⟨e, p, np, k, L⟩ => ⟨len + 1 - (qs.length + 1), by omega, qs ++ [p], e, by rw [List.length_append, List.length_singleton], k, L, ?_, by rw [List.length_append, List.length_singleton]; omega⟩, ?_⟩
    · exact Grown.trans k2 (by rw [h1]; nofun) gr ⟨[p], rfl, fun x hx => by rw [List.mem_singleton.mp hx]; exact np⟩
    have hq : qs[qs.length - 1]? = some qs[qs.length - 1] := List.getElem?_eq_getElem (by omega)
    have lst := (hL2.lay _ _ hq).1
    refine ⟨_, rfl, a, Z.cL, dx, _, _, rfl, a2, U.cL, U.la _ (by simp), c4, .inl ⟨rfl, _, SqL.of h1⟩, ?_⟩
    refine ⟨_, rfl, a, Z.cL, dx, _, _, rfl, a2, U.cL, U.la _ (by simp), c3, ?_⟩
    refine ⟨_, rfl, a, Z.cL, dx, _, _, rfl, a2, U.cL, U.la _ (by simp), c4, 1, rfl, pl, _, _, .ref qs[qs.length - 1], rfl, rfl, SqL.of h1, ?_, ?_⟩
    · have e : qs.map V.ref = (qs.take (qs.length - 1)).map V.ref ++ [.ref qs[qs.length - 1]] := by
        have z : qs.take (qs.length - 1 + 1) = qs.take (qs.length - 1) ++ [qs[qs.length - 1]] := by
          rw [List.take_add_one, hq]
          rfl
        rw [show qs.length - 1 + 1 = qs.length by omega, List.take_length] at z
        have z2 := congrArg (List.map V.ref) z
        rw [List.map_append] at z2
        exact z2
      rw [e]
      exact atI_last ..
    refine ⟨pg, qs[qs.length - 1], rowsOf n ms, cAt n ms es (qs.length - 1), rfl, c8.same hL2.sB, lst, by rw [rowsOf_len]; exact nl, fun r hr => ?_, fun p H3 s3 np h3' => ?_⟩
    · rw [cAt_len]
      exact rows_ok O r hr
    have h13 := s3 _ _ h1
    refine ⟨pl, _, _, rfl, rfl, h13, Nat.lt_of_lt_of_le (show (qs.map V.ref).length < 5000 by rw [ql]; omega) (by decide), ?_⟩
    have pn : p ≠ pl := fun z => by
      rw [z, h1] at np
      exact nomatch np
    have kk : But pl H2 (upd H3 pl (.lst (qs.map V.ref ++ [.ref p]))) := fun b o e h => by
      rw [upd_ne h]
      exact s3 _ _ e
    refine ⟨rfl, p, np, but_trans k2 kk, ⟨same_upd_of (hL2.sB.trans s3) hL2.np, hL2.np, by rw [upd_same, List.map_append]; rfl, by rw [List.length_append]; omega, hL2.ins, fun i r e => ?_⟩⟩
    by_cases hi : i < qs.length
    · rw [List.getElem?_append_left hi] at e
      exact ⟨kk _ _ (hL2.lay i r e).1 (hL2.lay i r e).2, (hL2.lay i r e).2⟩
    · have g2 := (List.getElem?_eq_some_iff.mp e).1
      rw [List.length_append, List.length_singleton] at g2
      have e1 : i = qs.length := by omega
      subst e1
      rw [List.getElem?_concat_length] at e
      obtain rfl := Option.some.inj e
      refine ⟨?_, pn⟩
      rw [upd_ne pn, h3']
      obtain ⟨k, ek⟩ : ∃ k, qs.length = k + 1 := ⟨qs.length - 1, by omega⟩
      rw [ek, Nat.add_sub_cancel]
      rfl
/-- how many words of a length lead to an end from the state 0 -/
def cnt0 (n : Nat) (ms : List Mv) (es : List Nat) (k : Nat) : Nat := (cAt n ms es k).getD 0 0
def spCo (K : PySem.W.Frag) (Z : Ads) : Sp := fun vs H Q _ => ∃ (B : Hp) (a pl : Addr) (n : Nat) (ms : List Mv) (es : List Nat) (qs : List Addr) (len : Nat), vs = [.ref a, .int len] ∧ LyAt K Z B H a pl n ms es qs ∧ qs.length ≤ 2000 ∧ len ≤ 1000 ∧
  ∀ (qs2 : List Addr) (H2 : Hp), But pl H H2 → LyAt K Z B H2 a pl n ms es qs2 → Grown H qs qs2 → qs2.length ≤ 2000 → Q (.int (cnt0 n ms es len : Nat)) H2
theorem cAt_get {n : Nat} {ms : List Mv} {es : List Nat} {k s : Nat} (h : s < n) : (natsV (cAt n ms es k))[s]? = some (V.int ((cAt n ms es k).getD s 0 : Nat)) := natsV_at (by rw [cAt_len]; exact h)
theorem fo_co {fd fd1 : FuncData} (F : Fun K "count_of" "Layers.count_of" s_Layers_count_of Z.lco fd) (U : Own K mg Z) (b_Layers_at : Binds K fd1 ["self", "length"] []) (G_Layers_at : FnOk P w K mg base CX0 2 Z.lat fd1 ["self", "length"] (spAt K Z)) (T : Txt mg) :
    FnOk P w K mg base CX0 3 Z.lco fd ["self", "length"] (spCo K Z) := by
  refine F.ok sc_Layers_count_of (fun vs H Q E h => ?_) (fun cdv A outer s H vs Q E hr h => ?_)
  · obtain ⟨B, a, pl, n, ms, es, m, len, rfl, _⟩ := h
    rfl
  · obtain ⟨B, a, pl, n, ms, es, qs, len, rfl, hL, hm, hlen, q⟩ := h
    have nd := sc_Layers_count_of.nd
    refine ⟨_, (pss_one (ps_ret (pe_ix (k_ixL (K := K)) (pe_meth (E := E0) (pv 0) U.cL U.me_at G_Layers_at (hr.mono (by decide)) b_Layers_at .nil pass0 (pa_cons (pv 1) pa_nil)) pe_int (fun _ _ => rfl)))), ?_⟩
    obtain ⟨dx, f, pg, pm, fs, c1, c2, c3, c4, c5, c6, c7, c8, c9⟩ := hL.ins
    have n0 := c7.1.n0
    refine ⟨_, rfl, a, dx, fs, rfl, hL.sB _ _ c1, c6 _ (by simp), _, rfl, B, a, pl, n, ms, es, qs, len, rfl, hL, hm, hlen, fun p qs2 H2 k2 L2 gr l2 hp _ => ?_⟩
    exact ⟨p, _, 0, _, rfl, rfl, SqL.of hp, atI_nat (j := 0) (cAt_get n0), q qs2 H2 k2 L2 gr l2⟩
def shN (n : Nat) (ms : List Mv) (es : List Nat) (len : Nat) : Nat := ((List.range len).map fun k => cnt0 n ms es k).sum
def spSh (K : PySem.W.Frag) (Z : Ads) : Sp := fun vs H Q _ => ∃ (B : Hp) (a pl : Addr) (n : Nat) (ms : List Mv) (es : List Nat) (qs : List Addr) (len : Nat), vs = [.ref a, .int len] ∧ LyAt K Z B H a pl n ms es qs ∧ qs.length ≤ 2000 ∧ len ≤ 1000 ∧
  ∀ (qs2 : List Addr) (H2 : Hp), But pl H H2 → LyAt K Z B H2 a pl n ms es qs2 → Grown H qs qs2 → qs2.length ≤ 2000 → Q (.int (shN n ms es len : Nat)) H2
theorem fo_sh {fd fd1 : FuncData} (F : Fun K "shorter" "Layers.shorter" s_Layers_shorter Z.lsh fd) (U : Own K mg Z) (b_Layers_count_of : Binds K fd1 ["self", "length"] []) (G_Layers_count_of : FnOk P w K mg base CX0 3 Z.lco fd1 ["self", "length"] (spCo K Z)) (T : Txt mg) :
    FnOk P w K mg base CX0 4 Z.lsh fd ["self", "length"] (spSh K Z) := by
  refine F.ok sc_Layers_shorter (fun vs H Q E h => ?_) (fun cdv A outer s H vs Q E hr h => ?_)
  · obtain ⟨B, a, pl, n, ms, es, m, len, rfl, _⟩ := h
    rfl
  · obtain ⟨B, a, pl, n, ms, es, qs0, len, rfl, hL, hm, hlen, q⟩ := h
    have nd := sc_Layers_shorter.nd
    refine ⟨_, (pss_one (ps_ret (pe_callB (k_sum (K := K) rfl) (by rfl) T.sum (by decide +kernel) (pa_cons (pe_lc (own := [("less", 2)]) rfl nd (pi_range1 rfl T.range (pa_cons (pv 1) pa_nil)) (blkOk_by (N := N_Layers_shorter) (sc := defScope s_Layers_shorter) (by decide +kernel)) (fun _ _ _ _ _ => (pg_name (i := 2) nd rfl (Or.inl rfl))) (fun _ _ _ _ _ => pts_nil) (fun _ _ _ _ _ => (pe_meth (E := E0) (pv 0) U.cL U.me_count_of G_Layers_count_of (hr.mono (by decide)) b_Layers_count_of .nil pass0 (pa_cons (pv 2) pa_nil)))) pa_nil)))), ?_⟩
    refine ⟨_, rfl, _, rfl, by omega, by omega, fun D nD => ?_⟩
    rw [Int.toNat_natCast]
    obtain ⟨BD, Dpl, Dq⟩ := hL.free nD
    refine lc_it (walk_range (lo := 0) (n := len)) (fun i HI => ∃ qs, But pl H HI ∧ LyAt K Z B HI a pl n ms es qs ∧ Grown H qs0 qs ∧ D ∉ qs ∧ qs.length ≤ 2000 ∧ HI D = some (.lst (natsV ((List.range i).map fun k => cnt0 n ms es k)))) ⟨qs0, but_of (same_new nD), hL.same (same_new nD), .refl, Dq, hm, upd_same⟩ (fun _ _ _ _ => trivial) ?_ ?_
    · rintro i x H1 H2 hi ⟨qs, k1, L1, gr, Dq, l1, hD⟩ ⟨rfl, hx⟩
      obtain rfl : x = V.int (i : Int) := by
        rw [hx]
        show V.int (0 + (i : Int)) = _
        rw [Int.zero_add]
      obtain ⟨dx, f, pg, pm, fs, c1, c2, c3, c4, c5, c6, c7, c8, c9⟩ := L1.ins
      refine ⟨wipe1 _ _ _, yesI ?_⟩
      refine ⟨_, rfl, a, dx, fs, rfl, L1.sB _ _ c1, c6 _ (by simp), _, rfl, B, a, pl, n, ms, es, qs, i, rfl, L1, l1, by omega, fun qs3 H3 k3 L3 g3 l3 => ?_⟩
      have hD3 := k3 _ _ hD Dpl
      have Dq3 := g3.out Dq hD
      have gr3 := Grown.trans k1 (by rw [L1.at_]; nofun) gr g3
      refine ⟨_, hD3, Nat.lt_of_lt_of_le (show (natsV ((List.range i).map fun k => cnt0 n ms es k)).length < 5000 by rw [natsV_len, List.length_map, List.length_range]; omega) (by decide), qs3, fun b o e h => ?_, L3.put BD Dpl Dq3, gr3, Dq3, l3, ?_⟩
      · rw [upd_ne (ne_of_none e nD)]
        exact k3 _ _ (k1 b o e h) h
      · rw [upd_same, natsV_app, List.range_succ, List.map_append]
        rfl
    rintro H1 ⟨qs, k1, L1, gr, _, l1, hD⟩
    have e : natsV ((List.range len).map fun k => cnt0 n ms es k) = (((List.range len).map fun k => cnt0 n ms es k).map fun n : Nat => (n : Int)).map V.int := by
      unfold natsV
      rw [List.map_map, List.map_map, List.map_map]
      rfl
    rw [e] at hD
    refine ⟨D, _, rfl, SqL.of hD, ?_⟩
    rw [sum_nats]
    exact q qs H1 k1 L1 gr l1
end
end SG

/-! Weights, how many words are less. -/
namespace SG
open PySem PySem.Spec PyProof PyProof.Rows L2
local macro_rules
  | `(tactic| clean_wf) => `(tactic| repeat (first | refine ⟨_, rfl, ?_⟩ | refine ⟨rfl, ?_⟩ | refine ⟨_, _, rfl, ?_⟩ | refine ⟨_, _, rfl, rfl, ?_⟩ | refine ⟨_, _, _, rfl, ?_⟩ | refine ⟨_, _, _, _, rfl, ?_⟩))
local macro_rules
  | `(tactic| exists $u:ident, $n:ident, $H:ident, $q:ident, $e:ident) => `(tactic| (refine ⟨by first | exact Nat.zero_le _ | assumption | (simp only [List.length_cons, List.length_nil]; decide), fun $u $n => ?_⟩; generalize hh : upd _ $u _ = $H; obtain ⟨$q, $e⟩ := mkq $n hh; clear hh))
local macro_rules
  | `(tactic| simp_wf) => `(tactic| first | assumption | exact upd_same | (refine (by assumption : Same _ _) _ _ ?_; simp_wf) | (refine (by assumption : Kept _ _ _ _) _ _ ?_ (by assumption) (by assumption); simp_wf))
local macro_rules
  | `(tactic| decreasing_trivial) => `(tactic| first | assumption | exact .inl (.inl (by assumption)) | (refine sameT (by assumption) ?_; decreasing_trivial))
local macro_rules
  | `(tactic| array_get_dec) => `(tactic| first | assumption | (refine CdAt.same (by assumption) ?_; array_get_dec))
/-- with how many words of a length each move of a state goes on -/
def wts (n : Nat) (ms : List Mv) (es : List Nat) (s k : Nat) : List Nat := (prw ms s).map fun p => (cAt n ms es k).getD p.2 0
theorem wts_sum {n : Nat} {ms : List Mv} {es : List Nat} (ok : ∀ m ∈ ms, m.1 < n) {s : Nat} (h : s < n) (k : Nat) : (wts n ms es s k).sum = (cAt n ms es (k + 1)).getD s 0 := by
  show _ = (lng (rowsOf n ms) (cAt n ms es k)).getD s 0
  unfold lng
  rw [List.getD_eq_getElem?_getD, List.getElem?_map]
  have e := rowsOf_get ok h
  rw [List.getD_eq_getElem?_getD, List.getElem?_eq_getElem (by rw [rowsOf_len]; exact h)] at e
  rw [List.getElem?_eq_getElem (by rw [rowsOf_len]; exact h)]
  show _ = (((rowsOf n ms)[s]'(by rw [rowsOf_len]; exact h)).map fun g => (cAt n ms es k).getD g 0).sum
  rw [show (rowsOf n ms)[s]'(by rw [rowsOf_len]; exact h) = _ from e, List.map_map]
  unfold wts prw
  rw [List.map_map]
  rfl
theorem filt_eq {α β : Type} (l : List α) (d : α) (p : α → Bool) (f : α → β) : (((List.range l.length).filter fun i => p (l.getD i d)).map fun i => f (l.getD i d)) = (l.filter p).map f := by
  have e : (List.range l.length).map (fun i => l.getD i d) = l := by
    refine List.ext_getElem (by simp) fun i h1 h2 => ?_
    rw [List.getElem_map, List.getElem_range, List.getD_eq_getElem?_getD, List.getElem?_eq_getElem h2]
    rfl
  have z : (l.filter p) = ((List.range l.length).filter fun i => p (l.getD i d)).map fun i => l.getD i d := by
    have := congrArg (List.filter p) e
    rw [List.filter_map] at this
    exact this.symm
  rw [z, List.map_map]
  rfl
section
variable {P : Program} {w : World} {K : PySem.W.Frag} {mg : Str → Option Value} {base : Heap} {Z : Ads}
def spWt (K : PySem.W.Frag) (Z : Ads) : Sp := fun vs H Q _ => ∃ (B : Hp) (a pl : Addr) (n : Nat) (ms : List Mv) (es : List Nat) (qs : List Addr) (st len : Nat), vs = [.ref a, .int st, .int ((len + 1 : Nat) : Int)] ∧ LyAt K Z B H a pl n ms es qs ∧ qs.length ≤ 2000 ∧ len ≤ 999 ∧ st < n ∧
  ∀ (t pr D : Addr) (ts qs2 : List Addr) (H2 : Hp), But pl H H2 → LyAt K Z B H2 a pl n ms es qs2 → Grown H qs qs2 → qs2.length ≤ 2000 → SqT K H2 t [.ref pr, .ref D] → B pr = some (.lst (ts.map V.ref)) → PrsAt K B ts (prw ms st) → H2 D = some (.lst (natsV (wts n ms es st len))) → Q (.ref t) H2
theorem prw_ok {n : Nat} {ms : List Mv} {es : List Nat} (O : FmOk n ms es) {s : Nat} : ∀ p ∈ prw ms s, p.2 < n ∧ 97 ≤ p.1 ∧ p.1 ≤ 122 := by
  intro p hp
  obtain ⟨m, hm, rfl⟩ := List.mem_map.mp hp
  obtain ⟨o1, o2, o3⟩ := O.ok m (List.mem_filter.mp hm).1
  exact ⟨o3, o2⟩
theorem prw_len {n : Nat} {ms : List Mv} {es : List Nat} (O : FmOk n ms es) {s : Nat} : (prw ms s).length ≤ 1000 := by
  unfold prw
  rw [List.length_map]
  exact Nat.le_trans (List.length_filter_le _ _) O.ml
theorem fo_wt {fd fd1 : FuncData} (F : Fun K "weights" "Layers.weights" s_Layers_weights Z.lwt fd) (U : Own K mg Z) (b_Layers_at : Binds K fd1 ["self", "length"] []) (G_Layers_at : FnOk P w K mg base CX0 2 Z.lat fd1 ["self", "length"] (spAt K Z)) (T : Txt mg) :
    FnOk P w K mg base CX0 3 Z.lwt fd ["self", "state", "length"] (spWt K Z) := by
  refine F.ok sc_Layers_weights (fun vs H Q E h => ?_) (fun cdv A outer s H vs Q E hr h => ?_)
  · obtain ⟨B, a, pl, n, ms, es, m, st, len, rfl, _⟩ := h
    rfl
  · obtain ⟨B, a, pl, n, ms, es, qs, st, len, rfl, hL, hm, hlen, hst, q⟩ := h
    have nd := sc_Layers_weights.nd
    refine ⟨_, (pss_cons (ps_set (i := 3) nd rfl (Or.inr rfl) (pe_meth (E := E0) (pv 0) U.cL U.me_at G_Layers_at (hr.mono (by decide)) b_Layers_at .nil pass0 (pa_cons (pe_op op_sub (pv 2) pe_int) pa_nil)))
      (pss_one (ps_ret (pe_tup (pa_cons (pe_ix (k_ixL (K := K)) (k_fld (K := K) (pv 0)) (pv 1) (fun _ _ => rfl)) (pa_cons (pe_lc (own := [("_", 4), ("goal", 5)]) rfl nd (pi_list (pe_ix (k_ixL (K := K)) (k_fld (K := K) (pv 0)) (pv 1) (fun _ _ => rfl))) (blkOk_by (N := N_Layers_weights) (sc := defScope s_Layers_weights) (by decide +kernel)) (fun _ _ _ _ _ => (k_tg (K := K) (n := 2) rfl (pgs_cons (pg_name (i := 4) nd rfl (Or.inl rfl)) (pgs_cons (pg_name (i := 5) nd rfl (Or.inl rfl)) pgs_nil)))) (fun _ _ _ _ _ => pts_nil) (fun _ _ _ _ _ => (pe_ix (k_ixL (K := K)) (pv 3) (pv 5) (fun _ _ => rfl)))) pa_nil)))))), ?_⟩
    obtain ⟨dx, f, pg, pm, fs, c1, c2, c3, c4, c5, c6, c7, c8, c9⟩ := hL.ins
    have O := c7.1
    have nl := O.nl
    clean_wf
    refine ⟨a, dx, fs, rfl, hL.sB _ _ c1, c6 _ (by simp), ?_⟩
    clean_wf
    rw [show ((fun i j : Int => V.int (i - j)) ((len + 1 : Nat) : Int) 1) = V.int (len : Nat) from congrArg V.int (by omega)]
    refine ⟨B, a, pl, n, ms, es, qs, len, rfl, hL, hm, by omega, fun p qs2 H2 k2 L2 gr l2 hp hpq => ?_⟩
    clean_wf
    obtain ⟨rq, p1, p2, p3⟩ := c9
    have lq : st < rq.length := by omega
    have hq : rq[st]? = some rq[st] := List.getElem?_eq_getElem lq
    obtain ⟨ts, t1, t2⟩ := p3 st _ hq
    have pl2 := prw_len O (s := st)
    refine ⟨a, Z.cL, dx, _, _, rfl, L2.sB _ _ c1, U.cL, U.la _ (by simp), c5, _, rfl, pm, _, _, .ref rq[st], rfl, rfl, SqL.of (L2.sB _ _ p1), atI_nat (by rw [List.getElem?_map, hq]; rfl), ?_⟩
    refine ⟨_, rfl, a, Z.cL, dx, _, _, rfl, L2.sB _ _ c1, U.cL, U.la _ (by simp), c5, _, rfl, pm, _, _, .ref rq[st], rfl, rfl, SqL.of (L2.sB _ _ p1), atI_nat (by rw [List.getElem?_map, hq]; rfl), rq[st], rfl, ⟨_, SqL.of (L2.sB _ _ t1)⟩, fun D nD => ?_⟩
    refine lc_valW (walk_list (K := K) (a := rq[st]) (xs := ts.map V.ref)) (by rw [List.length_map, t2.1]; omega) nD (fun i => V.int (((wts n ms es st len).getD i 0 : Nat) : Int)) (fun H3 s3 => SqL.of (s3 _ _ (L2.sB _ _ t1))) ?_ ?_
    · rintro i x H3 H4 hi s3 ⟨rfl, hx⟩ R hR
      rw [List.getElem?_map] at hx
      obtain ⟨c, hc, rfl⟩ := Option.map_eq_some_iff.mp hx
      obtain ⟨pp, e1, e2⟩ := t2.2 i c hc
      have og := prw_ok O pp (List.mem_of_getElem? e1)
      have ew : (wts n ms es st len).getD i 0 = (cAt n ms es len).getD pp.2 0 := by
        unfold wts
        rw [List.getD_eq_getElem?_getD, List.getElem?_map, e1]
        rfl
      rw [ew] at hR
      have sB3 := L2.sB.trans s3
      refine ⟨c, _, rfl, sameT sB3 e2, rfl, _, _, rfl, _, _, rfl, rfl, wipe2 _ _ _ _ _, ?_⟩
      exact ⟨_, rfl, _, rfl, p, _, _, _, rfl, rfl, SqL.of (s3 _ _ hp), atI_nat (cAt_get og.1), hR _ (Same.refl _)⟩
    intro H3 s3 hD
    refine ⟨by show 2 ≤ sizeLine; decide, fun T nT => ?_⟩
    have s4 := s3.trans (same_new (o := .tup [.ref rq[st], .ref D]) nT)
    refine q T rq[st] D ts qs2 _ (but_same k2 s4) (L2.same s4) gr l2 (.inl (.inl upd_same)) t1 t2 ?_
    rw [upd_ne (ne_of_none hD nT), hD]
    refine congrArg (fun l => some (HO.lst l)) ?_
    unfold natsV
    rw [List.length_map, t2.1]
    refine List.ext_getElem (by simp [wts]) fun i h1 h2 => ?_
    have h3 : i < (wts n ms es st len).length := by simpa using h2
    rw [List.getElem_map, List.getElem_map, List.getElem_range, List.getD_eq_getElem?_getD, List.getElem?_eq_getElem h3]
    rfl
/-- how many words of the same length, from a state, are less -/
def lesR (n : Nat) (ms : List Mv) (es : List Nat) (s g k : Nat) : Nat := (((prw ms s).filter fun p => decide (p.1 < g)).map fun p => (cAt n ms es k).getD p.2 0).sum
def lesN (n : Nat) (ms : List Mv) (es : List Nat) : Nat → List Nat → Nat
  | _, [] => 0
  | s, g :: r => lesR n ms es s g r.length + match nxt ms s g with
    | none => 0
    | some t => lesN n ms es t r
def spLe (K : PySem.W.Frag) (Z : Ads) : Sp := fun vs H Q _ => ∃ (B : Hp) (a pl : Addr) (n : Nat) (ms : List Mv) (es : List Nat) (qs : List Addr) (z : Str), vs = [.ref a, .str z] ∧ LyAt K Z B H a pl n ms es qs ∧ qs.length ≤ 2000 ∧ z.length ≤ 900 ∧
  ∀ (qs2 : List Addr) (H2 : Hp), But pl H H2 → LyAt K Z B H2 a pl n ms es qs2 → Grown H qs qs2 → qs2.length ≤ 2000 → Q (.int (lesN n ms es 0 z.cps.toList : Nat)) H2
theorem fo_le {fd fd1 fd2 : FuncData} (F : Fun K "lesser" "Layers.lesser" s_Layers_lesser Z.lle fd) (U : Own K mg Z) (b_Layers_weights : Binds K fd1 ["self", "state", "length"] []) (G_Layers_weights : FnOk P w K mg base CX0 3 Z.lwt fd1 ["self", "state", "length"] (spWt K Z))
    (F_Format_step : Fun K "step" "Format.step" s_Format_step Z.stp fd2) (b_Format_step : Binds K fd2 ["self", "state", "letter"] []) (T : Txt mg) : FnOk P w K mg base CX0 4 Z.lle fd ["self", "text"] (spLe K Z) := by
  have G_Format_step : FnOk P w K mg base CX0 1 Z.stp fd2 ["self", "state", "letter"] (spStep K Z.cF) := fo_step F_Format_step U T
  refine F.ok sc_Layers_lesser (fun vs H Q E h => ?_) (fun cdv A outer s H vs Q E hr h => ?_)
  · obtain ⟨B, a, pl, n, ms, es, m, z, rfl, _⟩ := h
    rfl
  · obtain ⟨B, a, pl, n, ms, es, qs0, z, rfl, hL, hm, hz, q⟩ := h
    have nd := sc_Layers_lesser.nd
    refine ⟨_, (pss_cons (ps_set (i := 2) nd rfl (Or.inl rfl) pe_int)
      (pss_cons (ps_set (i := 3) nd rfl (Or.inl rfl) pe_int)
      (pss_cons (ps_for PassesOwn.never rfl (pi_enumS0 (by rfl) T.enumerate (pa_cons (pv 1) pa_nil)) (k_tg (K := K) (n := 2) rfl (pgs_cons (pg_name (i := 4) nd rfl (Or.inl rfl)) (pgs_cons (pg_name (i := 5) nd rfl (Or.inr rfl)) pgs_nil)))
        (pss_cons (ps_asg (pe_meth (E := E0) (pv 0) U.cL U.me_weights G_Layers_weights (hr.mono (by decide)) b_Layers_weights .nil pass0 (pa_cons (pv 3) (pa_cons (pe_op op_sub (pe_callB call_len_str (by rfl) T.len (by decide +kernel) (pa_cons (pv 1) pa_nil)) (pv 4)) pa_nil))) (k_tg (K := K) (n := 2) rfl (pgs_cons (pg_name (i := 6) nd rfl (Or.inl rfl)) (pgs_cons (pg_name (i := 7) nd rfl (Or.inr rfl)) pgs_nil))))
      (pss_cons (ps_aug (i := 2) nd rfl (Or.inl rfl) (pe_callB (k_sum (K := K) rfl) (by rfl) T.sum (by decide +kernel) (pa_cons (pe_lc (own := [("index", 8), ("move", 9)]) rfl nd (k_enum (K := K) (by rfl) T.enumerate (pa_cons (pv 6) pa_nil)) (blkOk_by (N := N_Layers_lesser) (sc := defScope s_Layers_lesser) (by decide +kernel)) (fun _ _ _ _ _ => (k_tg (K := K) (n := 2) rfl (pgs_cons (pg_name (i := 8) nd rfl (Or.inl rfl)) (pgs_cons (pg_name (i := 9) nd rfl (Or.inl rfl)) pgs_nil)))) (fun _ _ _ _ _ => (pts_one (pt_cmpR op_lt_str (pe_ix (k_ixT (K := K)) (pv 9) pe_int (fun _ _ => rfl)) (pv 5) (nomark _)))) (fun _ _ _ _ _ => (pe_ix (k_ixL (K := K)) (pv 7) (pv 8) (fun _ _ => rfl)))) pa_nil)) ip_add)
      (pss_cons (ps_set (i := 3) nd rfl (Or.inl rfl) (pe_meth (E := E0) (k_fld (K := K) (pv 0)) U.cl U.me_step G_Format_step (hr.mono (by decide)) b_Format_step .nil pass0 (pa_cons (pv 3) (pa_cons (pv 5) pa_nil))))
      (pss_one (ps_if (pt_cmpR op_isN (pv 3) pe_non (nomark _)) (pss_one ps_break) pss_nil))))))
      (pss_one (ps_ret (pv 2)))))), ?_⟩
    clean_wf
    obtain ⟨dx, f, pg, pm, fs, c1, c2, c3, c4, c5, c6, c7, c8, c9⟩ := hL.ins
    have O := c7.1
    have sz : z.cps.size = z.length := rfl
    have lz : z.cps.toList.length = z.length := Array.length_toList ..
    refine for_it walk_enumS (fun i σ HI => ∃ (qs : List Addr) (t ah : Nat) (y4 y5 y6 y7 : Option V), σ = [some (.ref a), some (.str z), some (.int (ah : Nat)), some (.int (t : Nat)), y4, y5, y6, y7, none, none] ∧ But pl H HI ∧ LyAt K Z B HI a pl n ms es qs ∧ Grown H qs0 qs ∧ qs.length ≤ 2000 ∧ t < n ∧ ah + lesN n ms es t (z.cps.toList.drop i) = lesN n ms es 0 z.cps.toList)
      ⟨qs0, 0, 0, none, none, none, none, rfl, fun _ _ e _ => e, hL, .refl, hm, O.n0, by rw [Nat.zero_add]; rfl⟩ (fun _ _ _ _ _ => trivial) ?_ ?_
    · rintro i x σ H2 H3 hi ⟨qs, t, ah, y4, y5, y6, y7, rfl, k2, L2, gr, l2, ht, hs⟩ ⟨T, g, rfl, nT, hg, rfl⟩
      have hg2 : z.cps.toList[i]? = some g := by rw [← hg]; exact Array.getElem?_toList ..
      have ed : z.cps.toList.drop i = g :: z.cps.toList.drop (i + 1) := by
        obtain ⟨h1, h2⟩ := List.getElem?_eq_some_iff.mp hg2
        rw [List.drop_eq_getElem_cons h1, h2]
      have s3 := same_new (o := .tup [V.int ((0 + i : Nat) : Int), V.str ⟨#[g]⟩]) nT
      refine ⟨T, _, rfl, .inl (.inl upd_same), rfl, _, _, rfl, _, _, rfl, rfl, ?_⟩
      have L3 := L2.same s3
      have k3 := but_same k2 s3
      have gr3 := gr
      clear L2 k2
      generalize upd H2 T _ = H3 at L3 k3 ⊢
      clean_wf
      refine ⟨a, dx, fs, rfl, L3.sB _ _ c1, c6 _ (by simp), ?_⟩
      clean_wf
      refine ⟨by show z.length ≤ 16777216; omega, ?_⟩
      clean_wf
      obtain ⟨k, ek⟩ : ∃ k, z.length = i + (k + 1) := ⟨z.length - (i + 1), by omega⟩
      have lk : (z.cps.toList.drop (i + 1)).length = k := by rw [List.length_drop, lz]; omega
      rw [show ((fun i j : Int => V.int (i - j)) (z.length : Nat) ((0 + i : Nat) : Int)) = V.int ((k + 1 : Nat) : Int) from congrArg V.int (by omega)]
      refine ⟨B, a, pl, n, ms, es, qs, t, k, rfl, L3, l2, by omega, ht, fun tt pr D ts qs2 H4 k4 L4 gr4 l4 htt hpr hts hD => ?_⟩
      have k34 := but_trans k3 k4
      have gr34 := Grown.trans k3 (by rw [L3.at_]; nofun) gr gr4
      refine ⟨tt, _, rfl, htt, rfl, _, _, rfl, _, _, rfl, rfl, ?_⟩
      refine ⟨_, rfl, ?_⟩
      refine ⟨_, rfl, pr, _, rfl, SqL.of (L4.sB _ _ hpr), fun E nE => ?_⟩
      have pl2 := prw_len O (s := t)
      have wl : (wts n ms es t k).length = (prw ms t).length := by unfold wts; rw [List.length_map]
      refine lc_filW (walk_enum (K := K) (a := pr) (xs := ts.map V.ref)) (by rw [List.length_map, hts.1]; omega) nE (fun j => decide (((prw ms t).getD j (0, 0)).1 < g)) (fun j => .int (((cAt n ms es k).getD ((prw ms t).getD j (0, 0)).2 0 : Nat) : Int)) (fun H5 s5 => SqL.of (s5 _ _ (L4.sB _ _ hpr))) ?_ ?_
      · rintro j x H5 H6 hj s5 ⟨T2, x1, x2, rfl, nT2, rfl, e1, e2⟩ R N hR hN
        dsimp only at e1 e2
        obtain rfl := Option.some.inj e1
        rw [List.getElem?_map] at e2
        obtain ⟨c, hc, rfl⟩ := Option.map_eq_some_iff.mp e2
        obtain ⟨pp, g1, g2⟩ := hts.2 j c hc
        have ep : (prw ms t).getD j (0, 0) = pp := by rw [List.getD_eq_getElem?_getD, g1]; rfl
        have hj2 : j < (prw ms t).length := (List.getElem?_eq_some_iff.mp g1).1
        rw [ep] at hR hN
        have s6 := same_new (o := .tup [V.int ((j : Nat) : Int), V.ref c]) nT2
        have s56 := s5.trans s6
        refine ⟨T2, _, rfl, .inl (.inl upd_same), rfl, _, _, rfl, _, _, rfl, rfl, wipe2 _ _ _ _ _, ?_⟩
        refine ⟨_, rfl, c, _, 0, _, rfl, rfl, sameT (L4.sB.trans s56) g2, atI_nat (j := 0) rfl, _, rfl, _, _, rfl, rfl, ?_⟩
        rw [show decide ((sgn pp.1).cps.toList < (⟨#[g]⟩ : Str).cps.toList) = decide (pp.1 < g) from lt_sign _ _]
        refine ⟨_, rfl, ?_⟩
        by_cases lt : pp.1 < g
        · refine ifT (decide_eq_true lt) ?_
          refine ⟨_, rfl, _, rfl, D, _, _, _, rfl, rfl, SqL.of (s56 _ _ hD), atI_nat (natsV_at (by rw [wl]; exact hj2)), ?_⟩
          have ew : (wts n ms es t k).getD j 0 = (cAt n ms es k).getD pp.2 0 := by
            unfold wts
            rw [List.getD_eq_getElem?_getD, List.getElem?_map, g1]
            rfl
          rw [ew]
          exact hR (decide_eq_true lt) _ s6
        · refine ifF (decide_eq_false lt) ?_
          exact hN (decide_eq_false lt) _ s6
      intro H5 s5 hE
      rw [List.length_map, hts.1] at hE
      have ee : ((List.range (prw ms t).length).filter fun j => decide (((prw ms t).getD j (0, 0)).1 < g)).map (fun j => V.int (((cAt n ms es k).getD ((prw ms t).getD j (0, 0)).2 0 : Nat) : Int)) = ((((prw ms t).filter fun p => decide (p.1 < g)).map fun p => (cAt n ms es k).getD p.2 0).map fun n : Nat => (n : Int)).map V.int := by
        rw [filt_eq (prw ms t) (0, 0) (fun p => decide (p.1 < g)) (fun p => V.int (((cAt n ms es k).getD p.2 0 : Nat) : Int)), List.map_map, List.map_map]
        rfl
      rw [ee] at hE
      refine ⟨E, _, rfl, SqL.of hE, ?_⟩
      rw [sum_nats]
      have L5 := L4.same s5
      have k5 := but_same k34 s5
      refine ⟨_, _, rfl, rfl, ?_⟩
      have hF := c7.same L5.sB
      have hF0 := hF
      obtain ⟨_, dxf, am, ae, de, fsf, f1', f2', f3, f4, f5, f6, f7, f8, fx, f9⟩ := hF
      refine ⟨_, rfl, a, Z.cL, dx, _, _, rfl, L5.sB _ _ c1, U.cL, U.la _ (by simp), c2, f, dxf, fsf, rfl, f1', f9 _ (by simp), ?_⟩
      refine ⟨_, rfl, _, rfl, f, n, ms, es, t, g, rfl, hF0, fun H6 s6 => ?_⟩
      have L6 := L5.same s6
      have k6 := but_same k5 s6
      have gr6 := gr34
      rw [show (fun i j : Int => i + j) ((ah : Nat) : Int) ((((prw ms t).filter fun p => decide (p.1 < g)).map fun p => (cAt n ms es k).getD p.2 0).sum : Nat) = ((ah + lesR n ms es t g k : Nat) : Int) by unfold lesR; dsimp only; omega]
      rw [ed, lesN, lk] at hs
      cases en : nxt ms t g with
      | none =>
        rw [en] at hs
        refine ⟨_, rfl, rfl, true, rfl, ifT rfl ?_⟩
        refine ⟨_, rfl, ?_⟩
        have e : ah + lesR n ms es t g k = lesN n ms es 0 z.cps.toList := by rw [← hs]; dsimp only; omega
        rw [e]
        exact q qs2 H6 k6 L6 gr6 l4
      | some t2 =>
        rw [en] at hs
        refine ⟨_, rfl, rfl, false, rfl, ifF rfl ?_⟩
        have ot := (O.ok _ (nxt_some en)).2.2
        exact ⟨qs2, t2, _, _, _, _, _, rfl, k6, L6, gr6, l4, ot, by rw [← hs]; dsimp only; omega⟩
    rintro σ H2 ⟨qs, t, ah, y4, y5, y6, y7, rfl, k2, L2, gr, l2, ht, hs⟩
    rw [sz, ← lz, List.drop_length] at hs
    refine ⟨_, rfl, ?_⟩
    have e : ah = lesN n ms es 0 z.cps.toList := by rw [← hs]; rfl
    rw [e]
    exact q qs H2 k2 L2 gr l2
end
end SG

/-! The word with a number, its length. -/
namespace SG
open PySem PySem.Spec PyProof PyProof.Rows L2
open SX (S)
local macro_rules
  | `(tactic| clean_wf) => `(tactic| repeat (first | refine ⟨_, rfl, ?_⟩ | refine ⟨rfl, ?_⟩ | refine ⟨_, _, rfl, ?_⟩ | refine ⟨_, _, rfl, rfl, ?_⟩ | refine ⟨_, _, _, rfl, ?_⟩ | refine ⟨_, _, _, _, rfl, ?_⟩))
local macro_rules
  | `(tactic| exists $u:ident, $n:ident, $H:ident, $q:ident, $e:ident) => `(tactic| (refine ⟨by first | exact Nat.zero_le _ | assumption | (simp only [List.length_cons, List.length_nil]; decide), fun $u $n => ?_⟩; generalize hh : upd _ $u _ = $H; obtain ⟨$q, $e⟩ := mkq $n hh; clear hh))
local macro_rules
  | `(tactic| simp_wf) => `(tactic| first | assumption | exact upd_same | (refine (by assumption : Same _ _) _ _ ?_; simp_wf) | (refine (by assumption : Kept _ _ _ _) _ _ ?_ (by assumption) (by assumption); simp_wf))
local macro_rules
  | `(tactic| decreasing_trivial) => `(tactic| first | assumption | exact .inl (.inl (by assumption)) | (refine sameT (by assumption) ?_; decreasing_trivial))
local macro_rules
  | `(tactic| array_get_dec) => `(tactic| first | assumption | (refine CdAt.same (by assumption) ?_; array_get_dec))
/-- in which of some lots a number falls, and what is left of it -/
def gre : List Nat → Nat → Nat × Nat
  | [], i => (0, i)
  | x :: w, i => if i < x then (0, i) else ((gre w (i - x)).1 + 1, (gre w (i - x)).2)
theorem gre_ok : ∀ (w : List Nat) (i : Nat), i < w.sum → (gre w i).1 < w.length ∧ (gre w i).2 < w.getD (gre w i).1 0 ∧ i = (w.take (gre w i).1).sum + (gre w i).2
  | [], i, h => absurd h (Nat.not_lt_zero _)
  | x :: w, i, h => by
    unfold gre
    split
    · next lt => exact ⟨Nat.succ_pos _, lt, by simp⟩
    · next ge =>
      rw [List.sum_cons] at h
      obtain ⟨h1, h2, h3⟩ := gre_ok w (i - x) (by omega)
      refine ⟨Nat.succ_lt_succ h1, h2, ?_⟩
      rw [List.take_succ_cons, List.sum_cons]
      dsimp only
      omega
theorem take_mono (w : List Nat) {p q : Nat} (h : p ≤ q) : (w.take p).sum ≤ (w.take q).sum := by
  obtain ⟨k, rfl⟩ := Nat.exists_eq_add_of_le h
  rw [List.take_add, List.sum_append]
  omega
/-- the word of a length, from a state, with a number -/
def wordN (n : Nat) (ms : List Mv) (es : List Nat) : Nat → Nat → Nat → List Nat
  | _, 0, _ => []
  | s, k + 1, i => ((prw ms s).getD (gre (wts n ms es s k) i).1 (0, 0)).1 :: wordN n ms es ((prw ms s).getD (gre (wts n ms es s k) i).1 (0, 0)).2 k (gre (wts n ms es s k) i).2
def sgnV (l : List Nat) : List V := l.map fun g => V.str (sgn g)
section
variable {P : Program} {w : World} {K : PySem.W.Frag} {mg : Str → Option Value} {base : Heap} {Z : Ads}
def spWo (K : PySem.W.Frag) (Z : Ads) : Sp := fun vs H Q _ => ∃ (B : Hp) (a pl : Addr) (n : Nat) (ms : List Mv) (es : List Nat) (qs : List Addr) (len i : Nat), vs = [.ref a, .int len, .int i] ∧ LyAt K Z B H a pl n ms es qs ∧ qs.length ≤ 2000 ∧ len ≤ 900 ∧ i < cnt0 n ms es len ∧
  ∀ (qs2 : List Addr) (H2 : Hp), But pl H H2 → LyAt K Z B H2 a pl n ms es qs2 → Grown H qs qs2 → qs2.length ≤ 2000 → Q (.str (S (wordN n ms es 0 len i))) H2
theorem fo_wo {fd fd1 : FuncData} (F : Fun K "word_of" "Layers.word_of" s_Layers_word_of Z.lwo fd) (U : Own K mg Z) (b_Layers_weights : Binds K fd1 ["self", "state", "length"] []) (G_Layers_weights : FnOk P w K mg base CX0 3 Z.lwt fd1 ["self", "state", "length"] (spWt K Z)) (T : Txt mg) :
    FnOk P w K mg base CX0 4 Z.lwo fd ["self", "length", "index"] (spWo K Z) := by
  refine F.ok sc_Layers_word_of (fun vs H Q E h => ?_) (fun cdv A outer s H vs Q E hr h => ?_)
  · obtain ⟨B, a, pl, n, ms, es, m, len, i, rfl, _⟩ := h
    rfl
  · obtain ⟨B, a, pl, n, ms, es, qs0, len, i0, rfl, hL, hm, hlen, hi0, q⟩ := h
    have nd := sc_Layers_word_of.nd
    refine ⟨_, (pss_cons (ps_set (i := 3) nd rfl (Or.inl rfl) (pe_lst pa_nil))
      (pss_cons (ps_set (i := 4) nd rfl (Or.inl rfl) pe_int)
      (pss_cons (ps_for PassesOwn.never rfl (pi_range3 rfl T.range (pa_cons (pv 1) (pa_cons pe_int (pa_cons (pe_un un_neg pe_int) pa_nil)))) (pg_name (i := 5) nd rfl (Or.inl rfl))
        (pss_cons (ps_asg (pe_meth (E := E0) (pv 0) U.cL U.me_weights G_Layers_weights (hr.mono (by decide)) b_Layers_weights .nil pass0 (pa_cons (pv 4) (pa_cons (pv 5) pa_nil))) (k_tg (K := K) (n := 2) rfl (pgs_cons (pg_name (i := 6) nd rfl (Or.inl rfl)) (pgs_cons (pg_name (i := 7) nd rfl (Or.inl rfl)) pgs_nil))))
      (pss_cons (ps_set (i := 8) nd rfl (Or.inl rfl) pe_int)
      (pss_cons (ps_while PassesOwn.never (pt_cmpR op_ge (pv 2) (pe_ix (k_ixL (K := K)) (pv 7) (pv 8) (fun _ _ => rfl)) (nomark _)) (pss_cons (ps_aug (i := 2) nd rfl (Or.inl rfl) (pe_ix (k_ixL (K := K)) (pv 7) (pv 8) (fun _ _ => rfl)) ip_sub)
      (pss_one (ps_aug (i := 8) nd rfl (Or.inl rfl) pe_int ip_add))))
      (pss_cons (ps_expr (pe_bm PySem.F.plainAttrs_list PySem.F.slot_list_append PySem.F.type_list_append mt_append (pv 3) (pa_cons (pe_ix (k_ixT (K := K)) (pe_ix (k_ixL (K := K)) (pv 6) (pv 8) (fun _ _ => rfl)) pe_int (fun _ _ => rfl)) pa_nil)))
      (pss_one (ps_set (i := 4) nd rfl (Or.inl rfl) (pe_ix (k_ixT (K := K)) (pe_ix (k_ixL (K := K)) (pv 6) (pv 8) (fun _ _ => rfl)) pe_int (fun _ _ => rfl)))))))))
      (pss_one (ps_ret (k_join (K := K) pe_str (pv 3))))))), ?_⟩
    obtain ⟨dx, f, pg, pm, fs, c1, c2, c3, c4, c5, c6, c7, c8, c9⟩ := hL.ins
    have O := c7.1
    refine ⟨by decide, fun L nL => ?_⟩
    obtain ⟨BL, Lpl, Lq⟩ := hL.free nL
    have s1 := same_new (o := .lst []) nL
    have L1 := hL.same s1
    have h1 : upd H L (.lst []) L = some (.lst []) := upd_same
    have k1 : But pl H (upd H L (.lst [])) := but_of s1
    generalize upd H L (.lst []) = H1 at L1 h1 k1 ⊢
    clean_wf
    refine ⟨len, 0, -1, len, rfl, RgC.neg (by omega) (by omega) (by omega) (by omega), ?_⟩
    refine for_it (walk_rangeC (lo := (len : Int)) (c := -1) (n := len)) (fun i σ HI => ∃ (qs : List Addr) (t idx : Nat) (cs : List Nat) (y5 y6 y7 y8 : Option V), σ = [some (.ref a), some (.int len), some (.int (idx : Nat)), some (.ref L), some (.int (t : Nat)), y5, y6, y7, y8] ∧ But pl H HI ∧ LyAt K Z B HI a pl n ms es qs ∧ Grown H qs0 qs ∧ L ∉ qs ∧ qs.length ≤ 2000 ∧ HI L = some (.lst (sgnV cs)) ∧ t < n ∧ idx < (cAt n ms es (len - i)).getD t 0 ∧ cs ++ wordN n ms es t (len - i) idx = wordN n ms es 0 len i0 ∧ cs.length = i)
      ⟨qs0, 0, i0, [], none, none, none, none, rfl, k1, L1, .refl, Lq, hm, h1, O.n0, hi0, rfl, rfl⟩ (fun _ _ _ _ _ => trivial) ?_ ?_
    · rintro i x σ H2 H3 hi ⟨qs, t, idx, cs, y5, y6, y7, y8, rfl, k2, L2, gr, LQ, l2, hLc, ht, hidx, hw, cl⟩ ⟨rfl, hx⟩
      obtain ⟨k, ek⟩ : ∃ k, len = i + (k + 1) := ⟨len - (i + 1), by omega⟩
      obtain rfl : x = V.int ((k + 1 : Nat) : Int) := by
        rw [hx]
        exact congrArg V.int (by omega)
      rw [show len - i = k + 1 by omega] at hidx hw
      refine ⟨_, rfl, a, dx, fs, rfl, L2.sB _ _ c1, c6 _ (by simp), ?_⟩
      clean_wf
      refine ⟨B, a, pl, n, ms, es, qs, t, k, rfl, L2, l2, by omega, ht, fun tt pr D ts qs2 H4 k4 L4 gr4 l4 htt hpr hts hD => ?_⟩
      have k24 := but_trans k2 k4
      have gr24 := Grown.trans k2 (by rw [L2.at_]; nofun) gr gr4
      have hL4 := k4 _ _ hLc Lpl
      have LQ4 := gr4.out LQ hLc
      refine ⟨tt, _, rfl, htt, rfl, _, _, rfl, _, _, rfl, rfl, ?_⟩
      clean_wf
      rw [← wts_sum (fun m hm => (O.ok m hm).1) ht] at hidx
      obtain ⟨g1, g2, g3⟩ := gre_ok _ _ hidx
      rw [wordN] at hw
      have wl : (wts n ms es t k).length = (prw ms t).length := by unfold wts; rw [List.length_map]
      have ew : ∀ p, p < (prw ms t).length → (wts n ms es t k).getD p 0 = (cAt n ms es k).getD ((prw ms t).getD p (0, 0)).2 0 := fun p hp => by
        unfold wts
        rw [List.getD_eq_getElem?_getD, List.getElem?_map, List.getElem?_eq_getElem hp, List.getD_eq_getElem?_getD (l := prw ms t), List.getElem?_eq_getElem hp]
        rfl
      generalize wts n ms es t k = ws at hD hidx g1 g2 g3 hw wl ew
      generalize gre ws idx = PR at g1 g2 g3 hw
      obtain ⟨P1, R1⟩ := PR
      dsimp only at g1 g2 g3 hw
      refine ⟨fun M σ H5 => ∃ p r : Nat, σ = [some (.ref a), some (.int len), some (.int (r : Nat)), some (.ref L), some (.int (t : Nat)), some (.int ((k + 1 : Nat) : Int)), some (.ref pr), some (.ref D), some (.int (p : Nat))] ∧ H5 = H4 ∧ M = P1 - p ∧ p ≤ P1 ∧ idx = (ws.take p).sum + r, ⟨P1, 0, idx, rfl, rfl, rfl, Nat.zero_le _, by simp⟩, ?_⟩
      rintro M σ H5 ⟨p, r, rfl, rfl, rfl, hp, hr⟩
      have hp2 : p < ws.length := Nat.lt_of_le_of_lt hp g1
      have et := take_get hp2
      have es2 : (ws.take (p + 1)).sum = (ws.take p).sum + ws.getD p 0 := by rw [et, List.sum_append]; simp
      refine ⟨_, rfl, _, rfl, _, rfl, D, _, _, _, rfl, rfl, SqL.of hD, atI_nat (natsV_at hp2), _, _, rfl, rfl, _, rfl, ?_⟩
      by_cases lt : p < P1
      · have mono := take_mono ws (show p + 1 ≤ P1 by omega)
        refine ifT (decide_eq_true (by omega)) ?_
        refine ⟨fun σ H6 => σ = [some (.ref a), some (.int len), some (.int ((r - ws.getD p 0 : Nat) : Int)), some (.ref L), some (.int (t : Nat)), some (.int ((k + 1 : Nat) : Int)), some (.ref pr), some (.ref D), some (.int ((p + 1 : Nat) : Int))] ∧ H6 = H5, fun σ' H' ⟨e1, e2⟩ => ⟨P1 - (p + 1), by omega, p + 1, r - ws.getD p 0, e1, e2, rfl, lt, by omega⟩, ?_⟩
        refine ⟨_, rfl, _, rfl, _, rfl, D, _, _, _, rfl, rfl, SqL.of hD, atI_nat (natsV_at hp2), _, _, rfl, rfl, ?_⟩
        refine ⟨_, rfl, _, _, rfl, rfl, ?_, rfl⟩
        have e1 : ((r - ws.getD p 0 : Nat) : Int) = (r : Int) - (ws.getD p 0 : Nat) := by omega
        have e2 : ((p + 1 : Nat) : Int) = (p : Int) + 1 := by omega
        rw [e1, e2]
        rfl
      · have epP : p = P1 := by omega
        subst epP
        have er : r = R1 := by omega
        subst er
        refine ifF (decide_eq_false (by omega)) ?_
        have hp3 : p < (prw ms t).length := by omega
        obtain ⟨pp, e1, e2⟩ : ∃ pp, (prw ms t)[p]? = some pp ∧ (prw ms t).getD p (0, 0) = pp := ⟨_, List.getElem?_eq_getElem hp3, by rw [List.getD_eq_getElem?_getD, List.getElem?_eq_getElem hp3]; rfl⟩
        have htl : p < ts.length := by rw [hts.1]; exact hp3
        have hc : ts[p]? = some ts[p] := List.getElem?_eq_getElem htl
        obtain ⟨pp2, f1, f2⟩ := hts.2 p _ hc
        obtain rfl : pp = pp2 := Option.some.inj (e1.symm.trans f1)
        have ewp := ew p hp3
        rw [e2] at hw ewp
        have op := prw_ok O pp (List.mem_of_getElem? e1)
        have sB4 := L4.sB
        have hpr4 := sB4 _ _ hpr
        have prL : pr ≠ L := fun z => by
          rw [z, BL] at hpr
          exact nomatch hpr
        refine ⟨_, rfl, .inl ⟨rfl, _, SqL.of hL4⟩, ?_⟩
        refine ⟨_, rfl, _, rfl, pr, _, _, _, rfl, rfl, SqL.of hpr4, atI_nat (by rw [List.getElem?_map, hc]; rfl), ts[p], _, 0, _, rfl, rfl, sameT sB4 f2, atI_nat (j := 0) rfl, ?_⟩
        refine ⟨L, _, _, rfl, rfl, hL4, Nat.lt_of_lt_of_le (show (sgnV cs).length < 5000 by unfold sgnV; rw [List.length_map]; omega) (by decide), ?_⟩
        have L5 := L4.put (o := .lst (sgnV cs ++ [.str (sgn pp.1)])) BL Lpl LQ4
        have sB5 := L5.sB
        refine ⟨_, rfl, _, rfl, pr, _, _, _, rfl, rfl, SqL.of (sB5 _ _ hpr), atI_nat (by rw [List.getElem?_map, hc]; rfl), ts[p], _, 1, _, rfl, rfl, sameT sB5 f2, atI_nat (j := 1) rfl, ?_⟩
        refine ⟨qs2, pp.2, r, cs ++ [pp.1], _, _, _, _, rfl, fun b o e h => ?_, L5, gr24, LQ4, l4, ?_, op.1, ?_, ?_, ?_⟩
        · rw [upd_ne (ne_of_none e nL)]
          exact k24 b o e h
        · rw [upd_same]
          unfold sgnV
          rw [List.map_append]
          rfl
        · rw [show len - (i + 1) = k by omega, ← ewp]
          exact g2
        · rw [show len - (i + 1) = k by omega, ← hw, List.append_assoc]
          rfl
        · rw [List.length_append, cl]
          rfl
    rintro σ H2 ⟨qs, t, idx, cs, y5, y6, y7, y8, rfl, k2, L2, gr, LQ, l2, hLc, ht, hidx, hw, cl⟩
    rw [Nat.sub_self, wordN, List.append_nil] at hw
    rw [← hw] at q
    have e : sgnV cs = (cs.map fun g => (⟨#[g]⟩ : Str)).map V.str := by
      unfold sgnV
      rw [List.map_map]
      rfl
    rw [e] at hLc
    refine ⟨⟨_, rfl⟩, _, rfl, _, L, _, rfl, rfl, .inl (SqL.of hLc), ?_, ?_⟩
    · have e2 : ((cs.map fun g => (⟨#[g]⟩ : Str)).map (·.length)).sum = cs.length := by
        rw [List.map_map]
        have : cs.map ((·.length) ∘ fun g => (⟨#[g]⟩ : Str)) = cs.map fun _ => 1 := rfl
        rw [this, List.map_const', List.sum_replicate_nat, Nat.mul_one]
      have e0 : (Str.ofString "").length = 0 := by decide +kernel
      rw [e2, e0]
      show _ ≤ 16777216
      omega
    have z := q qs H2 k2 L2 gr l2
    rw [← join_signs] at z
    exact z
end
end SG

/-! The length of the word with a number. -/
namespace SG
open PySem PySem.Spec PyProof PyProof.Rows L2
local macro_rules
  | `(tactic| clean_wf) => `(tactic| repeat (first | refine ⟨_, rfl, ?_⟩ | refine ⟨rfl, ?_⟩ | refine ⟨_, _, rfl, ?_⟩ | refine ⟨_, _, rfl, rfl, ?_⟩ | refine ⟨_, _, _, rfl, ?_⟩ | refine ⟨_, _, _, _, rfl, ?_⟩))
local macro_rules
  | `(tactic| exists $u:ident, $n:ident, $H:ident, $q:ident, $e:ident) => `(tactic| (refine ⟨by first | exact Nat.zero_le _ | assumption | (simp only [List.length_cons, List.length_nil]; decide), fun $u $n => ?_⟩; generalize hh : upd _ $u _ = $H; obtain ⟨$q, $e⟩ := mkq $n hh; clear hh))
local macro_rules
  | `(tactic| simp_wf) => `(tactic| first | assumption | exact upd_same | (refine (by assumption : Same _ _) _ _ ?_; simp_wf) | (refine (by assumption : Kept _ _ _ _) _ _ ?_ (by assumption) (by assumption); simp_wf))
local macro_rules
  | `(tactic| decreasing_trivial) => `(tactic| first | assumption | exact .inl (.inl (by assumption)) | (refine sameT (by assumption) ?_; decreasing_trivial))
local macro_rules
  | `(tactic| array_get_dec) => `(tactic| first | assumption | (refine CdAt.same (by assumption) ?_; array_get_dec))
/-- the length of the word with a number, and its number among those of this length; k lengths from l on are looked at -/
def placeN (c : Nat → Nat) : Nat → Nat → Nat → Option (Nat × Nat)
  | 0, _, _ => none
  | k + 1, l, i => if i < c l then some (l, i) else placeN c k (l + 1) (i - c l)
section
variable {P : Program} {w : World} {K : PySem.W.Frag} {mg : Str → Option Value} {base : Heap} {Z : Ads}
def spPo (K : PySem.W.Frag) (Z : Ads) : Sp := fun vs H Q _ => ∃ (B : Hp) (a pl : Addr) (n : Nat) (ms : List Mv) (es : List Nat) (qs : List Addr) (i most : Nat), vs = [.ref a, .int i, .int most] ∧ LyAt K Z B H a pl n ms es qs ∧ qs.length ≤ 2000 ∧ most ≤ 900 ∧
  ∀ (x : V) (qs2 : List Addr) (H2 : Hp), But pl H H2 → LyAt K Z B H2 a pl n ms es qs2 → Grown H qs qs2 → qs2.length ≤ 2000 →
    ((placeN (cnt0 n ms es) (most + 1) 0 i = none ∧ x = .non) ∨ ∃ (l r : Nat) (t : Addr), placeN (cnt0 n ms es) (most + 1) 0 i = some (l, r) ∧ x = .ref t ∧ SqT K H2 t [.int l, .int r]) → Q x H2
theorem fo_po {fd fd1 : FuncData} (F : Fun K "place_of" "Layers.place_of" s_Layers_place_of Z.lpo fd) (U : Own K mg Z) (b_Layers_count_of : Binds K fd1 ["self", "length"] []) (G_Layers_count_of : FnOk P w K mg base CX0 3 Z.lco fd1 ["self", "length"] (spCo K Z)) (T : Txt mg) :
    FnOk P w K mg base CX0 4 Z.lpo fd ["self", "number", "most"] (spPo K Z) := by
  refine F.ok sc_Layers_place_of (fun vs H Q E h => ?_) (fun cdv A outer s H vs Q E hr h => ?_)
  · obtain ⟨B, a, pl, n, ms, es, m, i, most, rfl, _⟩ := h
    rfl
  · obtain ⟨B, a, pl, n, ms, es, qs0, i0, most, rfl, hL, hm, hmo, q⟩ := h
    have nd := sc_Layers_place_of.nd
    refine ⟨_, (pss_cons (ps_for PassesOwn.never rfl (pi_range1 rfl T.range (pa_cons (pe_op op_add (pv 2) pe_int) pa_nil)) (pg_name (i := 3) nd rfl (Or.inl rfl))
        (pss_cons (ps_if (pt_cmpR op_lt (pv 1) (pe_meth (E := E0) (pv 0) U.cL U.me_count_of G_Layers_count_of (hr.mono (by decide)) b_Layers_count_of .nil pass0 (pa_cons (pv 3) pa_nil)) (nomark _)) (pss_one (ps_ret (pe_tup (pa_cons (pv 3) (pa_cons (pv 1) pa_nil))))) pss_nil)
      (pss_one (ps_aug (i := 1) nd rfl (Or.inl rfl) (pe_meth (E := E0) (pv 0) U.cL U.me_count_of G_Layers_count_of (hr.mono (by decide)) b_Layers_count_of .nil pass0 (pa_cons (pv 3) pa_nil)) ip_sub))))
      (pss_one (ps_ret pe_non))), ?_⟩
    obtain ⟨dx, f, pg, pm, fs, c1, c2, c3, c4, c5, c6, c7, c8, c9⟩ := hL.ins
    clean_wf
    refine ⟨by omega, by omega, ?_⟩
    rw [show ((most : Nat) : Int) + 1 = ((most + 1 : Nat) : Int) by omega, Int.toNat_natCast]
    refine for_it (walk_range (lo := 0) (n := most + 1)) (fun i σ HI => ∃ (qs : List Addr) (r : Nat) (y3 : Option V), σ = [some (.ref a), some (.int (r : Nat)), some (.int most), y3] ∧ But pl H HI ∧ LyAt K Z B HI a pl n ms es qs ∧ Grown H qs0 qs ∧ qs.length ≤ 2000 ∧ placeN (cnt0 n ms es) (most + 1 - i) i r = placeN (cnt0 n ms es) (most + 1) 0 i0)
      ⟨qs0, i0, none, rfl, fun _ _ e _ => e, hL, .refl, hm, rfl⟩ (fun _ _ _ _ _ => trivial) ?_ ?_
    · rintro i x σ H2 H3 hi ⟨qs, r, y3, rfl, k2, L2, gr, l2, hp⟩ ⟨rfl, hx⟩
      obtain rfl : x = V.int (i : Int) := by
        rw [hx]
        show V.int (0 + (i : Int)) = _
        rw [Int.zero_add]
      obtain ⟨k, ek⟩ : ∃ k, most + 1 - i = k + 1 := ⟨most - i, by omega⟩
      rw [ek, placeN] at hp
      refine ⟨_, rfl, _, rfl, a, dx, fs, rfl, L2.sB _ _ c1, c6 _ (by simp), _, rfl, B, a, pl, n, ms, es, qs, i, rfl, L2, l2, by omega, fun qs3 H4 k4 L4 gr4 l4 => ?_⟩
      have k24 := but_trans k2 k4
      have gr24 := Grown.trans k2 (by rw [L2.at_]; nofun) gr gr4
      refine ⟨_, _, rfl, rfl, _, rfl, ?_⟩
      by_cases lt : r < cnt0 n ms es i
      · rw [if_pos lt] at hp
        refine ifT (decide_eq_true (by omega)) ?_
        refine ⟨_, rfl, _, rfl, by show 2 ≤ sizeLine; decide, fun t nt => ?_⟩
        have s5 := same_new (o := .tup [V.int (i : Nat), V.int (r : Nat)]) nt
        exact q _ qs3 _ (but_same k24 s5) (L4.same s5) gr24 l4 (.inr ⟨i, r, t, hp.symm, rfl, .inl (.inl upd_same)⟩)
      · rw [if_neg lt] at hp
        refine ifF (decide_eq_false (by omega)) ?_
        refine ⟨_, rfl, _, rfl, a, dx, fs, rfl, L4.sB _ _ c1, c6 _ (by simp), _, rfl, B, a, pl, n, ms, es, qs3, i, rfl, L4, l4, by omega, fun qs5 H5 k5 L5 gr5 l5 => ?_⟩
        refine ⟨_, _, rfl, rfl, qs5, r - cnt0 n ms es i, some (.int (i : Nat)), ?_, but_trans k24 k5, L5, Grown.trans k24 (by rw [L4.at_]; nofun) gr24 gr5, l5, ?_⟩
        · rw [show ((r - cnt0 n ms es i : Nat) : Int) = (r : Int) - (cnt0 n ms es i : Nat) by omega]
          rfl
        · rw [show most + 1 - (i + 1) = k by omega]
          exact hp
    rintro σ H2 ⟨qs, r, y3, rfl, k2, L2, gr, l2, hp⟩
    rw [Nat.sub_self, placeN] at hp
    exact q _ qs H2 k2 L2 gr l2 (.inl ⟨hp.symm, rfl⟩)
end
end SG

/-! Useful moves. -/
namespace SG
open PySem PySem.Spec PyProof PyProof.Rows L2
local macro_rules
  | `(tactic| clean_wf) => `(tactic| repeat (first | refine ⟨_, rfl, ?_⟩ | refine ⟨rfl, ?_⟩ | refine ⟨_, _, rfl, ?_⟩ | refine ⟨_, _, rfl, rfl, ?_⟩ | refine ⟨_, _, _, rfl, ?_⟩ | refine ⟨_, _, _, _, rfl, ?_⟩))
local macro_rules
  | `(tactic| exists $u:ident, $n:ident, $H:ident, $q:ident, $e:ident) => `(tactic| (refine ⟨by first | exact Nat.zero_le _ | assumption | (simp only [List.length_cons, List.length_nil]; decide), fun $u $n => ?_⟩; generalize hh : upd _ $u _ = $H; obtain ⟨$q, $e⟩ := mkq $n hh; clear hh))
local macro_rules
  | `(tactic| simp_wf) => `(tactic| first | assumption | exact upd_same | (refine (by assumption : Same _ _) _ _ ?_; simp_wf) | (refine (by assumption : Kept _ _ _ _) _ _ ?_ (by assumption) (by assumption); simp_wf))
local macro_rules
  | `(tactic| decreasing_trivial) => `(tactic| first | assumption | exact .inl (.inl (by assumption)) | (refine sameT (by assumption) ?_; decreasing_trivial))
local macro_rules
  | `(tactic| array_get_dec) => `(tactic| first | assumption | (refine CdAt.same (by assumption) ?_; array_get_dec))
/-- the moves between useful states -/
def useM (ms : List Mv) (us : List Nat) : List Mv := ms.filter fun m => decide (m.1 ∈ us) && decide (m.2.2 ∈ us)
section
variable {P : Program} {w : World} {K : PySem.W.Frag} {mg : Str → Option Value} {base : Heap} {Z : Ads}
def spUm (K : PySem.W.Frag) (Z : Ads) : Sp := fun vs H Q _ => ∃ (f : Addr) (n : Nat) (ms : List Mv) (es : List Nat), vs = [.ref f] ∧ FmAt K Z.cF H f n ms es ∧
  ∀ (p : Addr) (us : List Nat) (H2 : Hp), Same H H2 → UsOk n ms es us → PrAt K H2 p n (useM ms us) → Q (.ref p) H2
theorem fo_um {f0 : Addr} {fd : FuncData} (F : Fun K "useful_moves" "useful_moves" s_useful_moves f0 fd) (U : Own K mg Z) (T : Txt mg) : FnOk P w K mg base CX0 1 f0 fd ["form"] (spUm K Z) := by
  refine F.ok sc_useful_moves (fun vs H Q E h => ?_) (fun cdv A outer s H vs Q E hr h => ?_)
  · obtain ⟨f, n, ms, es, rfl, _⟩ := h
    rfl
  · obtain ⟨f, n, ms, es, rfl, hF, q⟩ := h
    have nd := sc_useful_moves.nd
    refine ⟨_, (pss_cons (ps_setDc (i := 1) (own := [("state", 3)]) rfl nd rfl rfl (sw_trueD rfl rfl rfl (by decide +kernel)) (pi_tup (k_fld (K := K) (pv 0))) (blkOk_by (N := N_useful_moves) (sc := defScope s_useful_moves) (by decide +kernel)) (fun _ _ _ _ _ => (pg_name (i := 3) nd rfl (Or.inl rfl))) (fun _ _ _ _ _ => pts_nil) (fun _ _ _ _ _ => (pv 3)) (fun _ _ _ _ _ => pe_bl))
      (pss_cons (ps_setLc (i := 2) (own := [("_", 6)]) rfl nd rfl rfl (sw_true rfl rfl rfl (by decide +kernel)) (pi_range1 rfl T.range (pa_cons (k_fld (K := K) (pv 0)) pa_nil)) (blkOk_by (N := N_useful_moves) (sc := defScope s_useful_moves) (by decide +kernel)) (fun _ _ _ _ _ => (pg_name (i := 6) nd rfl (Or.inl rfl))) (fun _ _ _ _ _ => pts_nil) (fun _ _ _ _ _ => (pe_lst pa_nil)))
      (pss_cons (ps_for PassesOwn.never rfl (pi_tup (k_fld (K := K) (pv 0))) (k_tg (K := K) (n := 3) rfl (pgs_cons (pg_name (i := 3) nd rfl (Or.inl rfl)) (pgs_cons (pg_name (i := 4) nd rfl (Or.inl rfl)) (pgs_cons (pg_name (i := 5) nd rfl (Or.inl rfl)) pgs_nil))))
        (pss_one (ps_if (PW.pt (pw_and (pt_cmp (pc_din (hu_of hr) (pv 3) (pv 1))) (pw_and1 (pt_cmp (pc_din (hu_of hr) (pv 5) (pv 1)))))) (pss_one (ps_expr (pe_bm PySem.F.plainAttrs_list PySem.F.slot_list_append PySem.F.type_list_append mt_append (pe_ix (k_ixL (K := K)) (pv 2) (pv 3) (fun _ _ => rfl)) (pa_cons (pe_tup (pa_cons (pv 4) (pa_cons (pv 5) pa_nil))) pa_nil)))) pss_nil)))
      (pss_one (ps_ret (pv 2)))))), ?_⟩
    obtain ⟨O, dxf, am, ae, de, fsf, f1, f2, f3, f4, f5, f6, f7, f8, ⟨dg, au, us, kvs, x1, x2, x3, x4, x5, x6⟩, f9⟩ := hF
    have nl := O.nl
    have ul : us.length ≤ n := nodup_len (x6.up.imp Nat.ne_of_lt) x6.lt
    refine ⟨_, rfl, f, Z.cF, dxf, _, _, rfl, f1, U.cl, U.fa _ (by simp), x2, au, rfl, ⟨_, x5⟩, fun De nDe => ?_⟩
    refine dc_true (walk_tup (K := K) (a := au) (xs := natsV us)) (fun H9 s9 => sameT s9 x5) (x6.up.imp Nat.ne_of_lt) (by show 3 < 7; decide) (by omega) nDe fun H2 s2 h2 => ?_
    clean_wf
    refine ⟨f, Z.cF, dxf, _, _, rfl, s2 _ _ f1, U.cl, U.fa _ (by simp), f2, ?_⟩
    refine ⟨_, rfl, by omega, by omega, fun D nD => ?_⟩
    rw [Int.toNat_natCast]
    refine lc_it (walk_range (lo := 0) (n := n)) (fun i HI => ∃ qs, PGrid K H2 HI D (List.replicate i []) qs) ⟨[], same_new nD, nD, upd_same, rfl, List.nodup_nil, (fun q hq => nomatch hq), (fun i q e => nomatch e)⟩ (fun _ _ _ _ => trivial) ?_ ?_
    · rintro i x H8 H9 hi ⟨qs, G⟩ ⟨rfl, rfl⟩
      refine ⟨wipe1 _ _ _, yesI ⟨by decide, fun q nq => ?_⟩⟩
      have ql : (qs.map V.ref).length < sizeLine := Nat.lt_of_lt_of_le (show (qs.map V.ref).length < 1001 by rw [List.length_map, G.len, List.length_replicate]; omega) (by decide)
      have qD : q ≠ D := fun z => by
        rw [z, G.at_] at nq
        exact nomatch nq
      refine ⟨_, (upd_ne (Ne.symm qD)).trans G.at_, ql, qs ++ [q], ?_⟩
      rw [List.replicate_succ']
      exact G.add nq
    rintro H9 ⟨qs, G9⟩
    clean_wf
    obtain ⟨ps, hT, lps, hms⟩ := f6
    refine ⟨f, Z.cF, dxf, _, _, rfl, G9.s _ _ (s2 _ _ f1), U.cl, U.fa _ (by simp), f3, am, rfl, ⟨_, sameT (s2.trans G9.s) hT⟩, ?_⟩
    refine for_it (walk_tup (K := K) (a := am) (xs := ps.map V.ref)) (fun i σ HI => ∃ (y3 y4 y5 : Option V), σ = [some (.ref f), some (.ref De), some (.ref D), y3, y4, y5, none] ∧ PGrid K H2 HI D (pairsOf n (useM (ms.take i) us)) qs) ⟨none, none, none, rfl, G9⟩ (fun i σ H2 _ h => by obtain ⟨_, _, _, _, h⟩ := h; exact sameT (s2.trans h.s) hT) ?_ ?_
    · rintro i x σ H10 H11 hi ⟨y3, y4, y5, rfl, G⟩ ⟨rfl, hx⟩
      rw [List.length_map, lps] at hi
      rw [List.getElem?_map] at hx
      obtain ⟨p, hp, rfl⟩ := Option.map_eq_some_iff.mp hx
      obtain ⟨m, gm, am2⟩ := hms i p hp
      obtain ⟨o1, o2, o3⟩ := O.ok m (List.mem_of_getElem? gm)
      have ml := O.ml
      have etk : ms.take (i + 1) = ms.take i ++ [m] := by
        rw [List.take_add_one, gm]
        rfl
      have eu : useM (ms.take (i + 1)) us = useM (ms.take i) us ++ (if (decide (m.1 ∈ us) && decide (m.2.2 ∈ us)) = true then [m] else []) := by
        unfold useM
        rw [etk, List.filter_append]
        cases b : (decide (m.1 ∈ us) && decide (m.2.2 ∈ us)) <;> simp [List.filter_cons, b]
      have okU : ∀ x ∈ useM (ms.take i) us, x.1 < n := fun x hx => (O.ok x (List.mem_of_mem_take (List.mem_filter.mp hx).1)).1
      have hDe := G.s _ _ h2
      refine ⟨p, _, rfl, sameT (s2.trans G.s) am2, rfl, _, _, rfl, _, _, rfl, _, _, rfl, rfl, ?_⟩
      refine ⟨_, rfl, _, rfl, De, _, rfl, DGet.k (k := Sum.inl (m.1 : Int)) hDe, ?_⟩
      rw [val_true]
      refine ⟨_, rfl, ?_⟩
      cases b1 : decide (m.1 ∈ us) with
      | false =>
        rw [b1] at eu
        refine ifF rfl (ifF rfl ⟨_, _, _, rfl, ?_⟩)
        rw [eu, if_neg (by simp), List.append_nil]
        exact G
      | true =>
        refine ifT rfl ?_
        refine ⟨_, rfl, _, rfl, De, _, rfl, DGet.k (k := Sum.inl (m.2.2 : Int)) hDe, ?_⟩
        rw [val_true]
        refine ⟨_, rfl, ?_⟩
        cases b2 : decide (m.2.2 ∈ us) with
        | false =>
          rw [b1, b2] at eu
          refine ifF rfl ⟨_, _, _, rfl, ?_⟩
          rw [eu, if_neg (by simp), List.append_nil]
          exact G
        | true =>
          rw [b1, b2] at eu
          refine ifT rfl ?_
          have lq : m.1 < qs.length := by rw [G.len, pairsOf_len]; exact o1
          have hq : qs[m.1]? = some qs[m.1] := List.getElem?_eq_getElem lq
          obtain ⟨ts0, t1, t2⟩ := G.row _ _ hq
          refine ⟨_, rfl, _, rfl, D, _, _, .ref qs[m.1], rfl, rfl, SqL.of G.at_, atI_nat (by rw [List.getElem?_map, hq]; rfl), .inl ⟨rfl, _, SqL.of t1⟩, ?_⟩
          refine ⟨_, rfl, _, rfl, (by show 2 ≤ sizeLine; decide), fun T nT => ?_⟩
          obtain ⟨ts, u1, u2, u3⟩ := G.app (p := m.2) hq nT
          refine ⟨_, _, _, rfl, rfl, (upd_ne (ne_of_none u1 nT)).trans u1, ?_, _, _, _, rfl, ?_⟩
          · rw [List.length_map, u2, pairsOf_get okU o1]
            unfold prw useM
            rw [List.length_map]
            refine Nat.lt_of_le_of_lt (Nat.le_trans (List.length_filter_le _ _) (List.length_filter_le _ _)) (Nat.lt_of_lt_of_le (show (ms.take i).length < 1001 by rw [List.length_take]; omega) (by decide))
          have e : pairsOf n (useM (ms.take (i + 1)) us) = (pairsOf n (useM (ms.take i) us)).set m.1 ((pairsOf n (useM (ms.take i) us)).getD m.1 [] ++ [m.2]) := by
            rw [eu, if_pos (by simp)]
            unfold pairsOf
            rw [List.foldl_append]
            rfl
          rw [e]
          exact u3
    rintro σ H10 ⟨y3, y4, y5, rfl, G⟩
    rw [List.length_map, lps, List.take_length] at G
    refine ⟨_, rfl, ?_⟩
    exact q D us H10 (s2.trans G.s) x6 (G.prAt fun m hm => (O.ok m (List.mem_filter.mp hm).1).1)
end
end SG

/-! Whether useful moves lead round. -/
namespace SG
open PySem PySem.Spec PyProof PyProof.Rows L2
local macro_rules
  | `(tactic| clean_wf) => `(tactic| repeat (first | refine ⟨_, rfl, ?_⟩ | refine ⟨rfl, ?_⟩ | refine ⟨_, _, rfl, ?_⟩ | refine ⟨_, _, rfl, rfl, ?_⟩ | refine ⟨_, _, _, rfl, ?_⟩ | refine ⟨_, _, _, _, rfl, ?_⟩))
local macro_rules
  | `(tactic| exists $u:ident, $n:ident, $H:ident, $q:ident, $e:ident) => `(tactic| (refine ⟨by first | exact Nat.zero_le _ | assumption | (simp only [List.length_cons, List.length_nil]; decide), fun $u $n => ?_⟩; generalize hh : upd _ $u _ = $H; obtain ⟨$q, $e⟩ := mkq $n hh; clear hh))
local macro_rules
  | `(tactic| simp_wf) => `(tactic| first | assumption | exact upd_same | (refine (by assumption : Same _ _) _ _ ?_; simp_wf) | (refine (by assumption : Kept _ _ _ _) _ _ ?_ (by assumption) (by assumption); simp_wf))
local macro_rules
  | `(tactic| decreasing_trivial) => `(tactic| first | assumption | exact .inl (.inl (by assumption)) | (refine sameT (by assumption) ?_; decreasing_trivial))
local macro_rules
  | `(tactic| array_get_dec) => `(tactic| first | assumption | (refine CdAt.same (by assumption) ?_; array_get_dec))
/-- how many of some pairs lead to a state -/
def cntP (l : List (Nat × Nat)) (g : Nat) : Nat := (l.filter fun p => decide (p.2 = g)).length
def tot (mu : List Mv) (L : List Nat) (g : Nat) : Nat := (L.map fun s => cntP (prw mu s) g).sum
def rem (us τ : List Nat) : List Nat := us.filter fun x => decide (x ∉ τ)
theorem cntP_snoc (l : List (Nat × Nat)) (p : Nat × Nat) (g : Nat) : cntP (l ++ [p]) g = cntP l g + if p.2 = g then 1 else 0 := by
  unfold cntP
  rw [List.filter_append, List.length_append]
  by_cases h : p.2 = g <;> simp [List.filter_cons, h]
theorem cntP_take (l : List (Nat × Nat)) (j g : Nat) : cntP (l.take j) g ≤ cntP l g := by
  unfold cntP
  exact (List.Sublist.filter _ (List.take_sublist j l)).length_le
theorem tot_snoc (mu : List Mv) (L : List Nat) (s g : Nat) : tot mu (L ++ [s]) g = tot mu L g + cntP (prw mu s) g := by
  unfold tot
  simp
theorem tot_rem (mu : List Mv) (g s : Nat) {τ : List Nat} (hτ : s ∉ τ) : ∀ {us : List Nat}, us.Nodup → s ∈ us → tot mu (rem us τ) g = tot mu (rem us (s :: τ)) g + cntP (prw mu s) g
  | [], _, h => nomatch h
  | u :: us, nd, h => by
    obtain ⟨h1, h2⟩ := List.nodup_cons.mp nd
    by_cases e : u = s
    · subst e
      have same : rem us (u :: τ) = rem us τ := List.filter_congr fun x hx => by
        have : x ≠ u := fun z => h1 (z ▸ hx)
        simp [this]
      have a : rem (u :: us) τ = u :: rem us τ := List.filter_cons_of_pos (by simpa using hτ)
      have b : rem (u :: us) (u :: τ) = rem us (u :: τ) := List.filter_cons_of_neg (by simp)
      rw [a, b, same]
      unfold tot
      rw [List.map_cons, List.sum_cons]
      omega
    · have hs : s ∈ us := (List.mem_cons.mp h).resolve_left (Ne.symm e)
      have ih := tot_rem mu g s hτ h2 hs
      by_cases m : u ∈ τ
      · have a : rem (u :: us) τ = rem us τ := List.filter_cons_of_neg (by simpa using m)
        have b : rem (u :: us) (s :: τ) = rem us (s :: τ) := List.filter_cons_of_neg (by simp [m])
        rw [a, b]
        exact ih
      · have a : rem (u :: us) τ = u :: rem us τ := List.filter_cons_of_pos (by simpa using m)
        have b : rem (u :: us) (s :: τ) = u :: rem us (s :: τ) := List.filter_cons_of_pos (by simp [m, e])
        rw [a, b]
        unfold tot at ih ⊢
        rw [List.map_cons, List.sum_cons, List.map_cons, List.sum_cons, ih]
        omega
theorem tot_zero {mu : List Mv} {L : List Nat} {g : Nat} (h : tot mu L g = 0) : ∀ s ∈ L, cntP (prw mu s) g = 0 := by
  induction L with
  | nil => exact fun s hs => nomatch hs
  | cons a L ih =>
    unfold tot at h
    rw [List.map_cons, List.sum_cons] at h
    intro s hs
    rcases List.mem_cons.mp hs with rfl | hs
    · omega
    · exact ih (by unfold tot; omega) s hs
theorem tot_pos {mu : List Mv} {L : List Nat} {g : Nat} (h : tot mu L g ≠ 0) : ∃ s ∈ L, cntP (prw mu s) g ≠ 0 := by
  induction L with
  | nil => exact absurd rfl h
  | cons a L ih =>
    by_cases z : cntP (prw mu a) g = 0
    · unfold tot at h
      rw [List.map_cons, List.sum_cons, z, Nat.zero_add] at h
      obtain ⟨s, hs, e⟩ := ih h
      exact ⟨s, List.mem_cons_of_mem _ hs, e⟩
    · exact ⟨a, List.mem_cons_self, z⟩
/-- each one's sources are behind it in the list -/
def TopoL (mu : List Mv) (us : List Nat) : List Nat → Prop
  | [] => True
  | t :: r => (∀ s ∈ us, cntP (prw mu s) t ≠ 0 → s ∈ r) ∧ TopoL mu us r
/-- how the taking away stands -/
structure Kahn (us : List Nat) (mu : List Mv) (τ W : List Nat) (f : Nat → Nat) : Prop where
  nd : (τ ++ W).Nodup
  inU : ∀ x ∈ τ ++ W, x ∈ us
  cnt : ∀ g ∈ us, f g = tot mu (rem us τ) g
  zero : ∀ x ∈ us, f x = 0 ↔ x ∈ τ ++ W
  topo : TopoL mu us τ
/-- while the moves of s are taken away -/
structure KahnI (us : List Nat) (mu : List Mv) (τ : List Nat) (s : Nat) (W : List Nat) (f : Nat → Nat) (j : Nat) : Prop where
  nd : ((s :: τ) ++ W).Nodup
  inU : ∀ x ∈ (s :: τ) ++ W, x ∈ us
  cnt : ∀ g ∈ us, f g + cntP ((prw mu s).take j) g = tot mu (rem us τ) g
  zero : ∀ x ∈ us, f x = 0 ↔ x ∈ (s :: τ) ++ W
  topo : TopoL mu us (s :: τ)
theorem Kahn.pop {us : List Nat} {mu : List Mv} {τ W : List Nat} {s : Nat} {f : Nat → Nat} (h : Kahn us mu τ (W ++ [s]) f) : KahnI us mu τ s W f 0 := by
  have pm : (τ ++ (W ++ [s])).Perm ((s :: τ) ++ W) := by
    rw [← List.append_assoc]
    exact (List.perm_append_comm (l₁ := τ ++ W) (l₂ := [s]))
  have hs : s ∈ us := h.inU s (by simp)
  have fs : f s = 0 := (h.zero s hs).mpr (by simp)
  refine ⟨pm.nodup_iff.mp h.nd, fun x hx => h.inU x (pm.mem_iff.mpr hx), fun g hg => ?_, fun x hx => (h.zero x hx).trans pm.mem_iff, ⟨fun u hu hc => ?_, h.topo⟩⟩
  · rw [h.cnt g hg]
    rfl
  · have z := tot_zero ((h.cnt s hs).symm.trans fs)
    refine Classical.byContradiction fun hn => hc (z u (List.mem_filter.mpr ⟨hu, by simpa using hn⟩))
theorem KahnI.done {us : List Nat} {mu : List Mv} {τ W : List Nat} {s : Nat} {f : Nat → Nat} (nd : us.Nodup) (h : KahnI us mu τ s W f (prw mu s).length) : Kahn us mu (s :: τ) W f := by
  have hs : s ∈ us := h.inU s (by simp)
  have hn : s ∉ τ := fun m => (List.nodup_cons.mp (List.nodup_append.mp h.nd).1).1 m
  refine ⟨h.nd, h.inU, fun g hg => ?_, h.zero, h.topo⟩
  have z := h.cnt g hg
  rw [List.take_length, tot_rem mu g s hn nd hs] at z
  omega
theorem KahnI.step {us : List Nat} {mu : List Mv} {τ W : List Nat} {s j : Nat} {f : Nat → Nat} {p : Nat × Nat} (nd : us.Nodup) (h : KahnI us mu τ s W f j) (hp : (prw mu s)[j]? = some p) (hg : p.2 ∈ us) :
    0 < f p.2 ∧ KahnI us mu τ s (if f p.2 - 1 = 0 then W ++ [p.2] else W) (fun x => if x = p.2 then f p.2 - 1 else f x) (j + 1) := by
  have hs : s ∈ us := h.inU s (by simp)
  have hn : s ∉ τ := fun m => (List.nodup_cons.mp (List.nodup_append.mp h.nd).1).1 m
  have et : (prw mu s).take (j + 1) = (prw mu s).take j ++ [p] := by
    rw [List.take_add_one, hp]
    rfl
  have pos : 0 < f p.2 := by
    have z := h.cnt p.2 hg
    rw [tot_rem mu p.2 s hn nd hs] at z
    have c := cntP_take (prw mu s) (j + 1) p.2
    rw [et, cntP_snoc, if_pos rfl] at c
    omega
  have out : p.2 ∉ (s :: τ) ++ W := fun m => by
    have := (h.zero _ hg).mpr m
    omega
  refine ⟨pos, ?_, ?_, fun g hgu => ?_, fun x hx => ?_, h.topo⟩
  · split
    · rw [← List.append_assoc]
      exact nodup_add h.nd out
    · exact h.nd
  · intro x hx
    split at hx
    · rw [← List.append_assoc] at hx
      rcases List.mem_append.mp hx with z | z
      · exact h.inU x z
      · rw [List.mem_singleton.mp z]
        exact hg
    · exact h.inU x hx
  · have z := h.cnt g hgu
    rw [et, cntP_snoc]
    by_cases e : g = p.2
    · subst e
      rw [if_pos rfl, if_pos rfl]
      omega
    · rw [if_neg e, if_neg (Ne.symm e)]
      exact z
  · by_cases e : x = p.2
    · subst e
      rw [if_pos rfl]
      split
      · next z =>
        exact ⟨fun _ => by simp, fun _ => z⟩
      · next z =>
        exact ⟨fun y => absurd y z, fun y => absurd y out⟩
    · rw [if_neg e, h.zero x hx]
      split
      · rw [← List.append_assoc]
        simp [e]
      · exact Iff.rfl
/-- a dict from states to numbers -/
def tabD (us : List Nat) (f : Nat → Nat) : List (Key × V) := us.map fun s : Nat => (Sum.inl (s : Int), V.int (f s : Nat))
theorem val_tab {us : List Nat} {f : Nat → Nat} {s : Nat} (h : s ∈ us) : valV (tabD us f) (Sum.inl (s : Int)) = some (V.int (f s : Nat)) := by
  unfold tabD valV
  induction us with
  | nil => exact nomatch h
  | cons a us ih =>
    rw [List.map_cons, List.find?_cons]
    by_cases e : a = s
    · subst e
      simp
    · have h2 : decide ((Sum.inl (a : Int) : Key) = Sum.inl (s : Int)) = false := decide_eq_false fun z => e (by injection z with z; omega)
      simp only [h2]
      exact ih ((List.mem_cons.mp h).resolve_left (Ne.symm e))
theorem put_tab {us : List Nat} {f : Nat → Nat} {s v : Nat} (h : s ∈ us) : putK (tabD us f) (Sum.inl (s : Int)) (V.int (v : Nat)) = tabD us (fun x => if x = s then v else f x) := by
  have e : ((tabD us f).any fun kv => decide (kv.1 = (Sum.inl (s : Int) : Key))) = true := by
    rw [List.any_eq_true]
    exact ⟨_, List.mem_map.mpr ⟨s, h, rfl⟩, by simp⟩
  unfold putK
  rw [e]
  simp only [if_true]
  unfold tabD
  rw [List.map_map]
  refine List.map_congr_left fun x hx => ?_
  by_cases z : x = s
  · subst z
    simp
  · have h2 : ¬ ((Sum.inl (x : Int) : Key) = Sum.inl (s : Int)) := fun y => z (by injection y with y; omega)
    simp [h2, z]
theorem put_zero {l : List Nat} {n : Nat} (h : ¬ n ∈ l) : putK (tabD l fun _ => 0) (Sum.inl (n : Int)) (V.int 0) = tabD (l ++ [n]) fun _ => 0 := by
  have e : ((tabD l fun _ => 0).any fun kv => decide (kv.1 = (Sum.inl (n : Int) : Key))) = false := by
    rw [List.any_eq_false]
    intro kv hkv
    obtain ⟨m, hm, rfl⟩ := List.mem_map.mp hkv
    have : ¬ ((Sum.inl (m : Int) : Key) = Sum.inl (n : Int)) := fun z => h (by
      injection z with z
      have z2 : m = n := by omega
      rw [← z2]
      exact hm)
    simp [this]
  unfold putK
  rw [e]
  unfold tabD
  simp
theorem us_uniq : ∀ {a b : List Nat}, a.Pairwise (· < ·) → b.Pairwise (· < ·) → (∀ x, x ∈ a ↔ x ∈ b) → a = b
  | [], [], _, _, _ => rfl
  | [], y :: b, _, _, h => nomatch (h y).mpr List.mem_cons_self
  | x :: a, [], _, _, h => nomatch (h x).mp List.mem_cons_self
  | x :: a, y :: b, ha, hb, h => by
    obtain ⟨a1, a2⟩ := List.pairwise_cons.mp ha
    obtain ⟨b1, b2⟩ := List.pairwise_cons.mp hb
    have e : x = y := by
      rcases List.mem_cons.mp ((h x).mp List.mem_cons_self) with z | z
      · exact z
      · rcases List.mem_cons.mp ((h y).mpr List.mem_cons_self) with u | u
        · exact u.symm
        · have := a1 y u
          have := b1 x z
          omega
    subst e
    rw [us_uniq a2 b2 fun u => ?_]
    have hu := h u
    rw [List.mem_cons, List.mem_cons] at hu
    constructor
    · intro m
      rcases hu.mp (.inr m) with z | z
      · have := a1 u m
        omega
      · exact z
    · intro m
      rcases hu.mpr (.inr m) with z | z
      · have := b1 u m
        omega
      · exact z
theorem but_sqK {K : PySem.W.Frag} {p : Addr} {H H2 : Hp} {kvs : List (Key × V)} (k : But p H H2) (hp : H p = some (.dK kvs)) {a : Addr} {zs : List V} (h : SqT K H a zs) : SqT K H2 a zs := by
  rcases h with (h | ⟨o, h⟩) | h
  · exact .inl (.inl (k _ _ h (ne_of h hp nofun)))
  · exact .inl (.inr ⟨o, k _ _ h (ne_of h hp nofun)⟩)
  · exact .inr h
theorem sqT_updL {K : PySem.W.Frag} {H : Hp} {p q : Addr} {xs zs : List V} {o : HO} (hp : H p = some (.lst xs)) (h : SqT K H q zs) : SqT K (upd H p o) q zs := but_sqL (p := p) (fun b o e h => by rw [upd_ne h]; exact e) hp h
theorem PrAt.butD {K : PySem.W.Frag} {p d : Addr} {H H2 : Hp} {n : Nat} {ms : List Mv} {kvs : List (Key × V)} (k : But d H H2) (hd : H d = some (.dK kvs)) (h : PrAt K H p n ms) : PrAt K H2 p n ms := by
  obtain ⟨qs, h1, h2, h3⟩ := h
  refine ⟨qs, k _ _ h1 (ne_of h1 hd nofun), h2, fun i q e => ?_⟩
  obtain ⟨ts, g1, g2, g3⟩ := h3 i q e
  refine ⟨ts, k _ _ g1 (ne_of g1 hd nofun), g2, fun j t e2 => ?_⟩
  obtain ⟨pp, y1, y2⟩ := g3 j t e2
  exact ⟨pp, y1, but_sqK k hd y2⟩
theorem use_goal {n : Nat} {ms : List Mv} {us : List Nat} {s : Nat} : ∀ p ∈ prw (useM ms us) s, p.2 ∈ us := by
  intro p hp
  obtain ⟨m, hm, rfl⟩ := List.mem_map.mp hp
  have h2 := (List.mem_filter.mp (List.mem_filter.mp hm).1).2
  rw [Bool.and_eq_true, decide_eq_true_eq, decide_eq_true_eq] at h2
  exact h2.2
theorem tot_get {us : List Nat} {mu : List Mv} {i s : Nat} (h : us[i]? = some s) (g : Nat) : tot mu (us.take (i + 1)) g = tot mu (us.take i) g + cntP (prw mu s) g := by
  have e : us.take (i + 1) = us.take i ++ [s] := by
    rw [List.take_add_one, h]
    rfl
  rw [e, tot_snoc]
section
variable {P : Program} {w : World} {K : PySem.W.Frag} {mg : Str → Option Value} {base : Heap} {Z : Ads}
theorem dc_zero {J : It} {R : List Nat} {G : Hp → Prop} (wk : Walk J (natsV R).length G (YAt (natsV R))) {H : Hp} {D : Addr} {sl : Nat} {σ : L2.St} {Qd : Hp → Prop} (hG : ∀ H2, Same H H2 → G H2) (nd : R.Nodup) (hsl : sl < σ.length) (hl : R.length ≤ 5000) (nD : H D = none) (done : ∀ H2, Same H H2 → H2 D = some (.dK (tabD R fun _ => 0)) → Qd H2) :
    ∃ W : Nat → Nat → Hp → Prop, (∃ m, W 0 m (upd H D (.dK []))) ∧ ∀ i m H, W i m H →
      (J.stop i H ∧ Qd H) ∨ (J.go i H ∧ ∃ Nx : Hp → Prop, (∀ H', Nx H' → ∃ m', m' < m ∧ W (i + 1) m' H') ∧ ∀ x H', J.yld i H x H' → gName sl x (wipe σ [sl]) H' fun σ2 H2 => wipe σ2 [sl] = wipe σ [sl] ∧ tYes σ2 H2 fun b H3 =>
        if b = true then tVar sl σ2 H3 fun y H4 => tC (.int 0) σ2 H4 fun z H5 => ∃ kvs k, y = kV k ∧ H5 D = some (.dK kvs) ∧ kvs.length < sizeLine ∧ Nx (upd H5 D (.dK (putK kvs k z))) else Nx H3) := by
  refine dc_it wk (fun i HI => Same H HI ∧ HI D = some (.dK (tabD (R.take i) fun _ => 0))) ⟨same_new nD, upd_same⟩ (fun i H _ h => hG _ h.1) ?_ ?_
  · rintro i x H2 H3 hi ⟨s2, h2⟩ ⟨rfl, hx⟩
    obtain ⟨hk, rfl⟩ := natsV_some hx
    refine ⟨wipe1 _ _ _, yesI ?_⟩
    have hn : ¬ R.getD i 0 ∈ R.take i := fun hm => by
      obtain ⟨j, hj, e⟩ := List.getElem_of_mem hm
      rw [List.getElem_take] at e
      have hj2 : j < i := by rw [List.length_take] at hj; omega
      have z := List.pairwise_iff_getElem.mp nd j i (Nat.lt_trans hj2 hk) hk hj2
      rw [List.getD_eq_getElem?_getD, List.getElem?_eq_getElem hk] at e
      exact z e
    have hs : ((wipe σ [sl]).set sl (some (V.int (R.getD i 0 : Nat))))[sl]? = some (some (V.int (R.getD i 0 : Nat))) := by
      rw [List.getElem?_set_self]
      rw [wipe_len1]
      exact hsl
    refine ⟨_, hs, tabD (R.take i) fun _ => 0, Sum.inl (R.getD i 0 : Int), rfl, h2, Nat.lt_of_lt_of_le (show (tabD (R.take i) fun _ => 0).length < 5001 by unfold tabD; rw [List.length_map, List.length_take]; omega) (by decide), same_upd_of s2 nD, ?_⟩
    rw [upd_same, put_zero hn, List.take_add_one, List.getElem?_eq_getElem hk, List.getD_eq_getElem?_getD, List.getElem?_eq_getElem hk]
    rfl
  rintro H2 ⟨s2, h2⟩
  rw [natsV_len, List.take_length] at h2
  exact done H2 s2 h2
/-- what is told of a format by whether it is endless -/
def EndB (n : Nat) (ms : List Mv) (es : List Nat) (b : Bool) : Prop := ∃ us, UsOk n ms es us ∧ ((b = true ∧ ∃ R : List Nat, R ≠ [] ∧ ∀ g ∈ R, g ∈ us ∧ ∃ s ∈ R, cntP (prw (useM ms us) s) g ≠ 0) ∨
  (b = false ∧ ∃ τ : List Nat, (∀ u ∈ us, u ∈ τ) ∧ τ.Nodup ∧ (∀ t ∈ τ, t ∈ us) ∧ TopoL (useM ms us) us τ))
def spIe (K : PySem.W.Frag) (Z : Ads) : Sp := fun vs H Q _ => ∃ (f : Addr) (n : Nat) (ms : List Mv) (es : List Nat), vs = [.ref f] ∧ FmAt K Z.cF H f n ms es ∧ ∀ (b : Bool) (H2 : Hp), Same H H2 → EndB n ms es b → Q (.bl b) H2
theorem fo_ie {f0 f1 : Addr} {fd fd1 : FuncData} (F : Fun K "is_endless" "is_endless" s_is_endless f0 fd) (U : Own K mg Z) (F_useful_moves : Fun K "useful_moves" "useful_moves" s_useful_moves f1 fd1) (m_useful_moves : mg "useful_moves" = some (.ref f1)) (b_useful_moves : Binds K fd1 ["form"] []) (T : Txt mg) : FnOk P w K mg base CX0 2 f0 fd ["form"] (spIe K Z) := by
  have G_useful_moves : FnOk P w K mg base CX0 1 f1 fd1 ["form"] (spUm K Z) := fo_um F_useful_moves U T
  refine F.ok sc_is_endless (fun vs H Q E h => ?_) (fun cdv A outer s H vs Q E hr h => ?_)
  · obtain ⟨f, n, ms, es, rfl, _⟩ := h
    rfl
  · obtain ⟨f, n, ms, es, rfl, hF, q⟩ := h
    have nd := sc_is_endless.nd
    refine ⟨_, (pss_cons (ps_set (i := 1) nd rfl (Or.inl rfl) (pe_call G_useful_moves (hr.mono (by decide)) (by rfl) m_useful_moves F_useful_moves.kp b_useful_moves .nil pass0 (pa_cons (pv 0) pa_nil)))
      (pss_cons (ps_set (i := 2) nd rfl (Or.inr rfl) (pe_dc (own := [("state", 3)]) rfl nd (pi_tup (k_fld (K := K) (pv 0))) (blkOk_by (N := N_is_endless) (sc := defScope s_is_endless) (by decide +kernel)) (fun _ _ _ _ _ => (pg_name (i := 3) nd rfl (Or.inl rfl))) (fun _ _ _ _ _ => pts_nil) (fun _ _ _ _ _ => (pv 3)) (fun _ _ _ _ _ => pe_int)))
      (pss_cons (ps_for PassesOwn.never rfl (pi_tup (k_fld (K := K) (pv 0))) (pg_name (i := 3) nd rfl (Or.inl rfl))
        (pss_one (ps_for PassesOwn.never rfl (pi_list (pe_ix (k_ixL (K := K)) (pv 1) (pv 3) (fun _ _ => rfl))) (k_tg (K := K) (n := 2) rfl (pgs_cons (pg_name (i := 4) nd rfl (Or.inl rfl)) (pgs_cons (pg_name (i := 5) nd rfl (Or.inl rfl)) pgs_nil)))
        (pss_one (ps_daug (hu_of hr) (pv 2) (pv 5) pe_int in_add (fun _ _ _ => rfl))))))
      (pss_cons (ps_setLc (i := 6) (own := [("state", 3)]) rfl nd rfl rfl (sw_true rfl rfl rfl (by decide +kernel)) (pi_tup (k_fld (K := K) (pv 0))) (blkOk_by (N := N_is_endless) (sc := defScope s_is_endless) (by decide +kernel)) (fun _ _ _ _ _ => (pg_name (i := 3) nd rfl (Or.inl rfl))) (fun _ _ _ _ _ => (pts_one (pt_cmpR op_eq (pe_dget (hu_of hr) (pv 2) (pv 3) (fun _ _ => rfl)) pe_int (nomark _)))) (fun _ _ _ _ _ => (pv 3)))
      (pss_cons (ps_set (i := 7) nd rfl (Or.inl rfl) pe_int)
      (pss_cons (ps_while PassesOwn.never (pt_truth (pv 6) (by intro _; rfl)) (pss_cons (ps_aug (i := 7) nd rfl (Or.inl rfl) pe_int ip_add)
      (pss_cons (ps_set (i := 3) nd rfl (Or.inl rfl) (pe_bm0 PySem.F.plainAttrs_list PySem.F.slot_list_pop PySem.F.type_list_pop mt_pop (pv 6)))
      (pss_one (ps_for PassesOwn.never rfl (pi_list (pe_ix (k_ixL (K := K)) (pv 1) (pv 3) (fun _ _ => rfl))) (k_tg (K := K) (n := 2) rfl (pgs_cons (pg_name (i := 4) nd rfl (Or.inl rfl)) (pgs_cons (pg_name (i := 5) nd rfl (Or.inl rfl)) pgs_nil)))
        (pss_cons (ps_daug (hu_of hr) (pv 2) (pv 5) pe_int in_sub (fun _ _ _ => rfl))
      (pss_one (ps_if (pt_cmpR op_eq (pe_dget (hu_of hr) (pv 2) (pv 5) (fun _ _ => rfl)) pe_int (nomark _)) (pss_one (ps_expr (pe_bm PySem.F.plainAttrs_list PySem.F.slot_list_append PySem.F.type_list_append mt_append (pv 6) (pa_cons (pv 5) pa_nil)))) pss_nil))))))))
      (pss_one (ps_ret (pe_cmpR op_lt (pv 7) (pe_callB (k_len (K := K)) (by rfl) T.len (by decide +kernel) (pa_cons (k_fld (K := K) (pv 0)) pa_nil)) (nomark _)))))))))), ?_⟩
    have hF0 := hF
    obtain ⟨O, dxf, am, ae, de, fsf, f1, f2, f3, f4, f5, f6, f7, f8, ⟨dg, au, us, kvs, x1, x2, x3, x4, x5, x6⟩, f9⟩ := hF
    have nl := O.nl
    have ul : us.length ≤ n := nodup_len (x6.up.imp Nat.ne_of_lt) x6.lt
    clean_wf
    refine ⟨f, n, ms, es, rfl, hF0, fun p us2 H1 s1 x6' hP => ?_⟩
    clean_wf
    obtain rfl : us2 = us := us_uniq x6'.up x6.up fun x => (x6'.is x).trans (x6.is x).symm
    have x5 := sameT s1 x5
    have f1 := s1 _ _ f1
    refine ⟨f, Z.cF, dxf, _, _, rfl, f1, U.cl, U.fa _ (by simp), x2, au, rfl, ⟨_, x5⟩, fun S nS => ?_⟩
    refine dc_zero (walk_tup (K := K) (a := au) (xs := natsV us2)) (fun H9 s9 => sameT s9 x5) (x6.up.imp Nat.ne_of_lt) (by show 3 < 8; decide) (by omega) nS fun H2 s2 h2 => ?_
    have x5 := sameT s2 x5
    have f1 := s2 _ _ f1
    have hP := hP.same s2
    have s02 := s1.trans s2
    have n0S : H S = none := s1.free nS
    have ndU : us2.Nodup := x6.up.imp Nat.ne_of_lt
    clear s2 nS s1
    generalize emu : useM ms us2 = mu at hP
    have gU : ∀ s, ∀ p ∈ prw mu s, p.2 ∈ us2 := fun s p hp => by
      rw [← emu] at hp
      exact use_goal (n := n) p hp
    have pl2 : ∀ s, (prw mu s).length ≤ 1000 := fun s => by
      rw [← emu]
      unfold prw useM
      rw [List.length_map]
      exact Nat.le_trans (List.length_filter_le _ _) (Nat.le_trans (List.length_filter_le _ _) O.ml)
    clean_wf
    refine ⟨f, Z.cF, dxf, _, _, rfl, f1, U.cl, U.fa _ (by simp), x2, au, rfl, ⟨_, x5⟩, ?_⟩
    have kS : But S H2 H2 := fun _ _ e _ => e
    refine for_it (walk_tup (K := K) (a := au) (xs := natsV us2)) (fun i σ HI => ∃ (y3 y4 y5 : Option V) (c : Nat → Nat), σ = [some (.ref f), some (.ref p), some (.ref S), y3, y4, y5, none, none] ∧ But S H2 HI ∧ HI S = some (.dK (tabD us2 c)) ∧ ∀ g ∈ us2, c g = tot mu (us2.take i) g)
      ⟨none, none, none, fun _ => 0, rfl, kS, h2, fun g _ => rfl⟩ (fun i σ HI _ h => by obtain ⟨_, _, _, _, _, k, _⟩ := h; exact but_sqK k h2 x5) ?_ ?_
    · rintro i x σ H3 H4 hi ⟨y3, y4, y5, c, rfl, k3, hS3, c3⟩ ⟨rfl, hx⟩
      obtain ⟨hk, rfl⟩ := natsV_some hx
      have hs : us2[i]? = some (us2.getD i 0) := by rw [List.getD_eq_getElem?_getD, List.getElem?_eq_getElem hk]; rfl
      have st := x6.lt _ (getD_mem hk)
      generalize us2.getD i 0 = s at hs st ⊢
      obtain ⟨rq, p1, p2, p3⟩ := hP.butD k3 h2
      have hq : rq[s]? = some rq[s] := List.getElem?_eq_getElem (by omega)
      obtain ⟨ts, t1, t2⟩ := p3 s _ hq
      refine ⟨_, rfl, _, rfl, p, _, _, .ref rq[s], rfl, rfl, SqL.of p1, atI_nat (by rw [List.getElem?_map, hq]; rfl), rq[s], rfl, ⟨_, SqL.of t1⟩, ?_⟩
      refine for_it (walk_list (K := K) (a := rq[s]) (xs := ts.map V.ref)) (fun j σ HI => ∃ (y4 y5 : Option V) (c : Nat → Nat), σ = [some (.ref f), some (.ref p), some (.ref S), some (.int (s : Nat)), y4, y5, none, none] ∧ But S H4 HI ∧ HI S = some (.dK (tabD us2 c)) ∧ ∀ g ∈ us2, c g = tot mu (us2.take i) g + cntP ((prw mu s).take j) g)
        ⟨y4, y5, c, rfl, fun _ _ e _ => e, hS3, c3⟩ (fun j σ HI _ h => by obtain ⟨_, _, _, _, k, _⟩ := h; exact SqL.of (k _ _ t1 (ne_of t1 hS3 nofun))) ?_ ?_
      · rintro j x σ H5 H6 hj ⟨y4, y5, c, rfl, k5, hS5, c5⟩ ⟨rfl, hx⟩
        rw [List.getElem?_map] at hx
        obtain ⟨t, ht, rfl⟩ := Option.map_eq_some_iff.mp hx
        obtain ⟨pp, e1, e2⟩ := t2.2 j t ht
        have gu := gU s pp (List.mem_of_getElem? e1)
        refine ⟨t, _, rfl, but_sqK k5 hS3 e2, rfl, _, _, rfl, _, _, rfl, rfl, ?_⟩
        have sl : (tabD us2 c).length < sizeLine := Nat.lt_of_lt_of_le (show (tabD us2 c).length < 5001 by unfold tabD; rw [List.length_map]; omega) (by decide)
        have hd := DPut.k (k := Sum.inl (pp.2 : Int)) (v := V.int ((c pp.2 + 1 : Nat) : Int)) hS5 sl
        rw [put_tab gu] at hd
        have ei : (c pp.2 : Int) + 1 = ((c pp.2 + 1 : Nat) : Int) := by omega
        refine ⟨_, rfl, _, rfl, S, _, rfl, val_tab gu ▸ DGet.k (k := Sum.inl (pp.2 : Int)) hS5, _, _, rfl, rfl, _, (by rw [ei]; exact hd), _, _, _, rfl, fun b o e h => ?_, upd_same, fun g hg => ?_⟩
        · rw [upd_ne h]
          exact k5 b o e h
        · have et : (prw mu s).take (j + 1) = (prw mu s).take j ++ [pp] := by
            rw [List.take_add_one, e1]
            rfl
          rw [et, cntP_snoc]
          by_cases z : g = pp.2
          · subst z
            rw [if_pos rfl, if_pos rfl, c5 _ hg]
            omega
          · rw [if_neg z, if_neg (Ne.symm z), c5 _ hg]
            omega
      rintro σ H5 ⟨y4, y5, c, rfl, k5, hS5, c5⟩
      refine ⟨_, _, _, c, rfl, but_trans k3 k5, hS5, fun g hg => ?_⟩
      rw [c5 g hg, tot_get hs, List.length_map, t2.1, List.take_length]
    rintro σ H3 ⟨y3, y4, y5, c, rfl, k3, hS3, c3⟩
    rw [natsV_len, List.take_length] at c3
    have x5 := but_sqK k3 h2 x5
    have f1 := k3 _ _ f1 (ne_of f1 h2 nofun)
    have hP := hP.butD k3 h2
    have s03 : Same H H3 := fun b o e => k3 _ _ (s02 _ _ e) (ne_of_none e n0S)
    clear k3 h2 s02
    refine ⟨_, rfl, f, Z.cF, dxf, _, _, rfl, f1, U.cl, U.fa _ (by simp), x2, au, rfl, ⟨_, x5⟩, fun W nW => ?_⟩
    refine lc_filW (walk_tup (K := K) (a := au) (xs := natsV us2)) (by rw [natsV_len]; omega) nW (fun i => decide (c (us2.getD i 0) = 0)) (fun i => .int (us2.getD i 0 : Nat)) (fun H4 s4 => sameT s4 x5) ?_ ?_
    · rintro i x H4 H5 hi s4 ⟨rfl, hx⟩ R N hR hN
      obtain ⟨hk, rfl⟩ := natsV_some hx
      have mu2 := getD_mem hk
      generalize us2.getD i 0 = s at mu2 hR hN ⊢
      refine ⟨wipe1 _ _ _, ?_⟩
      refine ⟨_, rfl, _, rfl, S, _, rfl, val_tab mu2 ▸ DGet.k (k := Sum.inl (s : Int)) (s4 _ _ hS3), rfl, _, rfl, ?_⟩
      have ed : decide (V.int (c s : Nat) = V.int 0) = decide (c s = 0) := decide_eq_decide.mpr ⟨fun h => by injection h with h; omega, fun h => by rw [h]; rfl⟩
      rw [ed]
      by_cases z : c s = 0
      · refine ifT (decide_eq_true z) ⟨_, rfl, hR (decide_eq_true z) _ (Same.refl _)⟩
      · exact ifF (decide_eq_false z) (hN (decide_eq_false z) _ (Same.refl _))
    intro H4 s4 hW
    rw [natsV_len, filt_eq us2 0 (fun x => decide (c x = 0)) (fun x => V.int (x : Nat))] at hW
    have n0W : H W = none := s03.free nW
    have WS : W ≠ S := fun z => by
      rw [z, hS3] at nW
      exact nomatch nW
    have hS4 := s4 _ _ hS3
    have K0 : Kahn us2 mu [] (us2.filter fun x => decide (c x = 0)) c := ⟨ndU.filter _, fun x hx => (List.mem_filter.mp hx).1, fun g hg => by
      rw [c3 g hg]
      congr 1
      exact (List.filter_eq_self.mpr fun a _ => by simp).symm, fun x hx => by simp [hx], trivial⟩
    clean_wf
    refine ⟨fun M σ HI => ∃ (y3 y4 y5 : Option V) (τ Wl : List Nat) (c : Nat → Nat), σ = [some (.ref f), some (.ref p), some (.ref S), y3, y4, y5, some (.ref W), some (.int (τ.length : Nat))] ∧ M = us2.length - τ.length ∧ But S H3 HI ∧ HI S = some (.dK (tabD us2 c)) ∧ HI W = some (.lst (natsV Wl)) ∧ Kahn us2 mu τ Wl c,
      ⟨_, _, _, _, [], _, c, rfl, rfl, but_of s4, hS4, hW, K0⟩, ?_⟩
    rintro M σ H5 ⟨y3, y4, y5, τ, Wl, c, rfl, rfl, k5, hS5, hW5, Kn⟩
    have lenK : τ.length + Wl.length ≤ us2.length := by
      have z := List.Nodup.length_le_of_subset Kn.nd (fun x hx => Kn.inU x hx)
      rwa [List.length_append] at z
    refine ⟨_, rfl, _, .inl ⟨_, SqL.of hW5, rfl⟩, ?_⟩
    by_cases em : Wl = []
    · subst em
      have f15 := k5 _ _ f1 (ne_of f1 hS3 nofun)
      refine ⟨_, rfl, _, rfl, f, Z.cF, dxf, _, _, rfl, f15, U.cl, U.fa _ (by simp), x2, au, _, rfl, .inr (but_sqK k5 hS3 x5), _, _, rfl, rfl, ?_⟩
      have s05 : Same H H5 := fun b o e => k5 _ _ (s03 _ _ e) (ne_of_none e n0S)
      rw [natsV_len]
      refine q _ H5 s05 ⟨us2, x6, ?_⟩
      rw [emu]
      have subτ : ∀ x ∈ τ, x ∈ us2 := fun x hx => Kn.inU x (List.mem_append.mpr (.inl hx))
      have ndτ : τ.Nodup := (List.nodup_append.mp Kn.nd).1
      by_cases lt : τ.length < us2.length
      · refine .inl ⟨decide_eq_true (by omega), rem us2 τ, fun z => ?_, fun g hg => ?_⟩
        · have : ∀ x ∈ us2, x ∈ τ := fun x hx => Classical.byContradiction fun hn => by
            have : x ∈ rem us2 τ := List.mem_filter.mpr ⟨hx, by simpa using hn⟩
            rw [z] at this
            exact nomatch this
          have := List.Nodup.length_le_of_subset ndU (fun x hx => this x hx)
          omega
        · obtain ⟨g1, g2⟩ := List.mem_filter.mp hg
          have gn : g ∉ τ := by simpa using g2
          have z : c g ≠ 0 := fun z => by
            have := (Kn.zero g g1).mp z
            rw [List.append_nil] at this
            exact gn this
          rw [Kn.cnt g g1] at z
          exact ⟨g1, tot_pos z⟩
      · refine .inr ⟨decide_eq_false (by omega), τ, fun u hu => Classical.byContradiction fun hn => ?_, ndτ, subτ, Kn.topo⟩
        have z := List.Nodup.length_le_of_subset (nodup_add ndτ hn) (fun x hx => by
          rcases List.mem_append.mp hx with y | y
          · exact subτ x y
          · rw [List.mem_singleton.mp y]
            exact hu : ∀ x ∈ τ ++ [u], x ∈ us2)
        rw [List.length_append, List.length_singleton] at z
        omega
    have w1 : 0 < Wl.length := List.length_pos_iff.mpr em
    have e1 : (!(natsV Wl).isEmpty) = true := by
      cases Wl with
      | nil => exact absurd rfl em
      | cons _ _ => rfl
    rw [e1]
    have lastV : (natsV Wl)[(natsV Wl).length - 1]? = some (V.int (Wl.getD (Wl.length - 1) 0 : Nat)) := by
      rw [natsV_len]
      exact natsV_at (by omega)
    have eW : Wl = Wl.dropLast ++ [Wl.getD (Wl.length - 1) 0] := by
      have z := take_get (show Wl.length - 1 < Wl.length by omega)
      rw [show Wl.length - 1 + 1 = Wl.length by omega, List.take_length, ← List.dropLast_eq_take] at z
      exact z
    have hsm := Kn.inU _ (List.mem_append.mpr (.inr (getD_mem (show Wl.length - 1 < Wl.length by omega))))
    generalize Wl.getD (Wl.length - 1) 0 = st at lastV eW hsm
    rw [eW] at Kn
    have KI := Kn.pop
    have wd : Wl.dropLast.length = Wl.length - 1 := List.length_dropLast
    have stn := x6.lt _ hsm
    refine ⟨fun σ HI => ∃ (y3 y4 y5 : Option V) (Wl : List Nat) (c : Nat → Nat), σ = [some (.ref f), some (.ref p), some (.ref S), y3, y4, y5, some (.ref W), some (.int ((st :: τ).length : Nat))] ∧ But S H3 HI ∧ HI S = some (.dK (tabD us2 c)) ∧ HI W = some (.lst (natsV Wl)) ∧ Kahn us2 mu (st :: τ) Wl c,
      fun σ' H' ⟨y3, y4, y5, Wl, c, r1, r2, r3, r4, r5⟩ => ⟨us2.length - (st :: τ).length, by rw [List.length_cons]; omega, y3, y4, y5, st :: τ, Wl, c, r1, rfl, r2, r3, r4, r5⟩, ?_⟩
    refine ⟨_, rfl, _, _, rfl, rfl, ?_⟩
    refine ⟨_, rfl, .inl ⟨rfl, _, SqL.of hW5⟩, W, natsV Wl, _, rfl, rfl, hW5, lastV, ?_⟩
    have hS6 : upd H5 W (.lst (natsV Wl).dropLast) S = some (.dK (tabD us2 c)) := (upd_ne (Ne.symm WS)).trans hS5
    have hW6 : upd H5 W (.lst (natsV Wl).dropLast) W = some (.lst (natsV Wl.dropLast)) := by rw [upd_same, natsV_drop]
    have k6 : But S H3 (upd H5 W (.lst (natsV Wl).dropLast)) := fun b o e h => by
      rw [upd_ne (ne_of_none e nW)]
      exact k5 b o e h
    generalize upd H5 W (.lst (natsV Wl).dropLast) = H6 at hS6 hW6 k6 ⊢
    obtain ⟨rq, p1, p2, p3⟩ := hP.butD k6 hS3
    have hq : rq[st]? = some rq[st] := List.getElem?_eq_getElem (by omega)
    obtain ⟨ts, t1, t2⟩ := p3 st _ hq
    have t1W : rq[st] ≠ W := fun z => by
      obtain ⟨rq', p1', p2', p3'⟩ := hP
      have : rq' = rq := refs_inj (by
        have y := (k6 _ _ p1' (ne_of p1' hS3 nofun)).symm.trans p1
        injection y with y
        injection y)
      subst this
      obtain ⟨ts', t1', _⟩ := p3' st _ hq
      rw [z, nW] at t1'
      exact nomatch t1'
    refine ⟨_, rfl, _, rfl, p, _, _, .ref rq[st], rfl, rfl, SqL.of p1, atI_nat (by rw [List.getElem?_map, hq]; rfl), rq[st], rfl, ⟨_, SqL.of t1⟩, ?_⟩
    refine for_it (walk_list (K := K) (a := rq[st]) (xs := ts.map V.ref)) (fun j σ HI => ∃ (y4 y5 : Option V) (Wl : List Nat) (c : Nat → Nat), σ = [some (.ref f), some (.ref p), some (.ref S), some (.int (st : Nat)), y4, y5, some (.ref W), some (.int ((st :: τ).length : Nat))] ∧ But S H3 HI ∧ HI S = some (.dK (tabD us2 c)) ∧ HI W = some (.lst (natsV Wl)) ∧ HI rq[st] = some (.lst (ts.map V.ref)) ∧ (∀ (k : Nat) (t : Addr), ts[k]? = some t → ∃ p, (prw mu st)[k]? = some p ∧ SqT K HI t [.str (sgn p.1), .int (p.2 : Int)]) ∧ KahnI us2 mu τ st Wl c j)
      ⟨y4, y5, Wl.dropLast, c, by rw [List.length_cons]; rfl, k6, hS6, hW6, t1, t2.2, KI⟩ (fun j σ HI _ h => by obtain ⟨_, _, _, _, _, _, _, _, k, _⟩ := h; exact SqL.of k) ?_ ?_
    · rintro j x σ H7 H8 hj ⟨y4, y5, Wl, c, rfl, k7, hS7, hW7, t7, u7, KJ⟩ ⟨rfl, hx⟩
      rw [List.getElem?_map] at hx
      obtain ⟨t, ht, rfl⟩ := Option.map_eq_some_iff.mp hx
      obtain ⟨pp, e1, e2⟩ := u7 j t ht
      have gu := gU st pp (List.mem_of_getElem? e1)
      obtain ⟨pos, KJ2⟩ := KJ.step ndU e1 gu
      refine ⟨t, _, rfl, e2, rfl, _, _, rfl, _, _, rfl, rfl, ?_⟩
      have sl : (tabD us2 c).length < sizeLine := Nat.lt_of_lt_of_le (show (tabD us2 c).length < 5001 by unfold tabD; rw [List.length_map]; omega) (by decide)
      have hd := DPut.k (k := Sum.inl (pp.2 : Int)) (v := V.int ((c pp.2 - 1 : Nat) : Int)) hS7 sl
      rw [put_tab gu] at hd
      have ei : (c pp.2 : Int) - 1 = ((c pp.2 - 1 : Nat) : Int) := by omega
      refine ⟨_, rfl, _, rfl, S, _, rfl, val_tab gu ▸ DGet.k (k := Sum.inl (pp.2 : Int)) hS7, _, _, rfl, rfl, _, (by rw [ei]; exact hd), ?_⟩
      have hS8 : upd H8 S (.dK (tabD us2 fun x => if x = pp.2 then c pp.2 - 1 else c x)) S = some (.dK (tabD us2 fun x => if x = pp.2 then c pp.2 - 1 else c x)) := upd_same
      have hW8 : upd H8 S (.dK (tabD us2 fun x => if x = pp.2 then c pp.2 - 1 else c x)) W = some (.lst (natsV Wl)) := (upd_ne WS).trans hW7
      have k8 : But S H3 (upd H8 S (.dK (tabD us2 fun x => if x = pp.2 then c pp.2 - 1 else c x))) := fun b o e h => by rw [upd_ne h]; exact k7 b o e h
      have b8 : But S H8 (upd H8 S (.dK (tabD us2 fun x => if x = pp.2 then c pp.2 - 1 else c x))) := fun b o e h => by rw [upd_ne h]; exact e
      have t8 := b8 _ _ t7 (ne_of t7 hS7 nofun)
      have u8 : ∀ (k : Nat) (t : Addr), ts[k]? = some t → ∃ p, (prw mu st)[k]? = some p ∧ SqT K (upd H8 S (.dK (tabD us2 fun x => if x = pp.2 then c pp.2 - 1 else c x))) t [.str (sgn p.1), .int (p.2 : Int)] := fun k t e => by
        obtain ⟨p, y1, y2⟩ := u7 k t e
        exact ⟨p, y1, but_sqK b8 hS7 y2⟩
      generalize upd H8 S _ = H9 at hS8 hW8 k8 t8 u8 ⊢
      refine ⟨_, rfl, _, rfl, S, _, rfl, val_tab gu ▸ DGet.k (k := Sum.inl (pp.2 : Int)) hS8, rfl, _, rfl, ?_⟩
      rw [if_pos rfl]
      have ed : decide (V.int ((c pp.2 - 1 : Nat) : Int) = V.int 0) = decide (c pp.2 - 1 = 0) := decide_eq_decide.mpr ⟨fun h => by injection h with h; omega, fun h => by rw [h]; rfl⟩
      rw [ed]
      by_cases z : c pp.2 - 1 = 0
      · rw [if_pos z] at KJ2
        refine ifT (decide_eq_true z) ?_
        have wl7 : (natsV Wl).length < sizeLine := Nat.lt_of_lt_of_le (show (natsV Wl).length < 5001 by
          rw [natsV_len]
          have y := List.Nodup.length_le_of_subset (List.nodup_append.mp KJ.nd).2.1 (fun x hx => KJ.inU x (List.mem_append.mpr (.inr hx)))
          omega) (by decide)
        refine ⟨_, rfl, .inl ⟨rfl, _, SqL.of hW8⟩, _, rfl, W, _, _, rfl, rfl, hW8, wl7, _, _, Wl ++ [pp.2], _, rfl, fun b o e h => ?_, (upd_ne (Ne.symm WS)).trans hS8, by rw [upd_same, natsV_app], (upd_ne t1W).trans t8, fun k t e => ?_, KJ2⟩
        · rw [upd_ne (ne_of_none e nW)]
          exact k8 b o e h
        · obtain ⟨p, y1, y2⟩ := u8 k t e
          exact ⟨p, y1, sqT_updL hW8 y2⟩
      · rw [if_neg z] at KJ2
        exact ifF (decide_eq_false z) ⟨_, _, Wl, _, rfl, k8, hS8, hW8, t8, u8, KJ2⟩
    rintro σ H7 ⟨y4, y5, Wl, c, rfl, k7, hS7, hW7, t7, u7, KJ⟩
    rw [List.length_map, t2.1] at KJ
    exact ⟨_, _, _, Wl, c, rfl, k7, hS7, hW7, KJ.done ndU⟩
end
end SG

/-! Words and numbers. -/
namespace SG
open PySem PySem.Spec PyProof PyProof.Rows L2
open SX (S)
local macro_rules
  | `(tactic| clean_wf) => `(tactic| repeat (first | refine ⟨_, rfl, ?_⟩ | refine ⟨rfl, ?_⟩ | refine ⟨_, _, rfl, ?_⟩ | refine ⟨_, _, rfl, rfl, ?_⟩ | refine ⟨_, _, _, rfl, ?_⟩ | refine ⟨_, _, _, _, rfl, ?_⟩))
local macro_rules
  | `(tactic| exists $u:ident, $n:ident, $H:ident, $q:ident, $e:ident) => `(tactic| (refine ⟨by first | exact Nat.zero_le _ | assumption | (simp only [List.length_cons, List.length_nil]; decide), fun $u $n => ?_⟩; generalize hh : upd _ $u _ = $H; obtain ⟨$q, $e⟩ := mkq $n hh; clear hh))
local macro_rules
  | `(tactic| simp_wf) => `(tactic| first | assumption | exact upd_same | (refine (by assumption : Same _ _) _ _ ?_; simp_wf) | (refine (by assumption : Kept _ _ _ _) _ _ ?_ (by assumption) (by assumption); simp_wf))
local macro_rules
  | `(tactic| decreasing_trivial) => `(tactic| first | assumption | exact .inl (.inl (by assumption)) | (refine sameT (by assumption) ?_; decreasing_trivial))
local macro_rules
  | `(tactic| array_get_dec) => `(tactic| first | assumption | (refine CdAt.same (by assumption) ?_; array_get_dec))
/-- the layers' own -/
structure LyF (P : Program) (w : World) (K : PySem.W.Frag) (mg : Str → Option Value) (base : Heap) (Z : Ads) : Prop where
  i : ∃ fd, Binds K fd ["self", "form"] [] ∧ FnOk P w K mg base CX0 3 Z.fL fd ["self", "form"] (spLayers K Z)
  sh : ∃ fd, Binds K fd ["self", "length"] [] ∧ FnOk P w K mg base CX0 4 Z.lsh fd ["self", "length"] (spSh K Z)
  le : ∃ fd, Binds K fd ["self", "text"] [] ∧ FnOk P w K mg base CX0 4 Z.lle fd ["self", "text"] (spLe K Z)
  wo : ∃ fd, Binds K fd ["self", "length", "index"] [] ∧ FnOk P w K mg base CX0 4 Z.lwo fd ["self", "length", "index"] (spWo K Z)
  po : ∃ fd, Binds K fd ["self", "number", "most"] [] ∧ FnOk P w K mg base CX0 4 Z.lpo fd ["self", "number", "most"] (spPo K Z)
section
variable {P : Program} {w : World} {K : PySem.W.Frag} {mg : Str → Option Value} {base : Heap} {Z : Ads}
theorem ly_make {H : Hp} {f y dx : Addr} {n : Nat} {ms : List Mv} {es : List Nat} (hF : FmAt K Z.cF H f n ms es) (ny : H y = none) (nx : H dx = none) (hne : dx ≠ y) {R : Hp → Prop} {E : XK} (k : ∀ (pl : Addr) (B : Hp) (qs : List Addr) (H2 : Hp), Same H H2 → H pl = none → qs.length = 1 → LyAt K Z B H2 y pl n ms es qs → R H2) :
    spLayers K Z [.ref y, .ref f] (upd (upd H dx (.own y)) y (.ins Z.cL dx [])) (fun v H2 => v = .non ∧ R H2) E := by
  have sm : Same H (upd (upd H dx (.own y)) y (.ins Z.cL dx [])) := (same_new nx).trans (same_new (by rw [upd_ne hne.symm]; exact ny))
  exact ⟨y, dx, f, n, ms, es, rfl, upd_same, hF.same sm, fun pl H2 k2 npl ⟨B, qs, lq, L⟩ => ⟨rfl, k pl B qs H2 (fun b o e => k2 _ _ (sm _ _ e) (ne_of_none e ny)) (sm.free npl) lq L⟩⟩
/-- from a heap without the layers' list on, all stays -/
theorem same_but {H H2 H3 : Hp} {pl : Addr} (s : Same H H2) (n : H pl = none) (k : But pl H2 H3) : Same H H3 := fun b o e => k _ _ (s _ _ e) (ne_of_none e n)
/-- how many words are ahead of a text -/
def ahdN (n : Nat) (ms : List Mv) (es : List Nat) (l : List Nat) : Nat := shN n ms es l.length + lesN n ms es 0 l
def spAh (K : PySem.W.Frag) (Z : Ads) : Sp := fun vs H Q _ => ∃ (f : Addr) (n : Nat) (ms : List Mv) (es : List Nat) (z : Str), vs = [.ref f, .str z] ∧ FmAt K Z.cF H f n ms es ∧ z.length ≤ 900 ∧ ∀ H2, Same H H2 → Q (.int (ahdN n ms es z.cps.toList : Nat)) H2
theorem fo_ah {f0 : Addr} {fd : FuncData} (F : Fun K "how_many_ahead" "how_many_ahead" s_how_many_ahead f0 fd) (U : Own K mg Z) (LF : LyF P w K mg base Z) (T : Txt mg) : FnOk P w K mg base CX0 5 f0 fd ["form", "text"] (spAh K Z) := by
  obtain ⟨_, b_Layers___init__, G_Layers___init__⟩ := LF.i
  obtain ⟨_, b_Layers_shorter, G_Layers_shorter⟩ := LF.sh
  obtain ⟨_, b_Layers_lesser, G_Layers_lesser⟩ := LF.le
  refine F.ok sc_how_many_ahead (fun vs H Q E h => ?_) (fun cdv A outer s H vs Q E hr h => ?_)
  · obtain ⟨f, n, ms, es, z, rfl, _⟩ := h
    rfl
  · obtain ⟨f, n, ms, es, z, rfl, hF, hz, q⟩ := h
    have nd := sc_how_many_ahead.nd
    refine ⟨_, (pss_cons (ps_set (i := 2) nd rfl (Or.inl rfl) (pe_make (E := E0) U.mkLayers G_Layers___init__ (hr.mono (by decide)) (by rfl) U.mLayers b_Layers___init__ .nil pass0 (pa_cons (pv 0) pa_nil)))
      (pss_one (ps_ret (pe_op op_add (pe_meth (E := E0) (pv 2) U.cL U.me_shorter G_Layers_shorter (hr.mono (by decide)) b_Layers_shorter .nil pass0 (pa_cons (pe_callB call_len_str (by rfl) T.len (by decide +kernel) (pa_cons (pv 1) pa_nil)) pa_nil)) (pe_meth (E := E0) (pv 2) U.cL U.me_lesser G_Layers_lesser (hr.mono (by decide)) b_Layers_lesser .nil pass0 (pa_cons (pv 1) pa_nil)))))), ?_⟩
    have lz : z.cps.toList.length = z.length := Array.length_toList ..
    refine ⟨_, rfl, fun y dx0 ny nx hne => ly_make hF ny nx hne fun pl B qs H1 s1 npl lq L1 => ?_⟩
    obtain ⟨dx, g, pg, pm, fs, c1, c2, c3, c4, c5, c6, c7, c8, c9⟩ := L1.ins
    clean_wf
    refine ⟨y, dx, fs, rfl, L1.sB _ _ c1, c6 _ (by simp), _, rfl, z, rfl, by show z.length ≤ 16777216; omega, ?_⟩
    refine ⟨B, y, pl, n, ms, es, qs, z.length, rfl, L1, by omega, by omega, fun qs2 H2 k2 L2 g2 l2 => ?_⟩
    refine ⟨_, rfl, y, dx, fs, rfl, L2.sB _ _ c1, c6 _ (by simp), _, rfl, B, y, pl, n, ms, es, qs2, z, rfl, L2, l2, hz, fun qs3 H3 k3 L3 g3 l3 => ?_⟩
    clean_wf
    have e : ((shN n ms es z.length : Nat) : Int) + (lesN n ms es 0 z.cps.toList : Nat) = ((ahdN n ms es z.cps.toList : Nat) : Int) := by
      unfold ahdN
      rw [lz]
      omega
    have := q H3 (same_but s1 npl (but_trans k2 k3))
    rw [← e] at this
    exact this
def spMt (K : PySem.W.Frag) (Z : Ads) : Sp := fun vs H Q _ => ∃ (f : Addr) (n : Nat) (ms : List Mv) (es : List Nat) (len : Nat), vs = [.ref f, .int len] ∧ FmAt K Z.cF H f n ms es ∧ len ≤ 990 ∧ ∀ H2, Same H H2 → Q (.int (shN n ms es (len + 1) : Nat)) H2
theorem fo_mt {f0 : Addr} {fd : FuncData} (F : Fun K "many_to" "many_to" s_many_to f0 fd) (U : Own K mg Z) (LF : LyF P w K mg base Z) (T : Txt mg) : FnOk P w K mg base CX0 5 f0 fd ["form", "length"] (spMt K Z) := by
  obtain ⟨_, b_Layers___init__, G_Layers___init__⟩ := LF.i
  obtain ⟨_, b_Layers_shorter, G_Layers_shorter⟩ := LF.sh
  refine F.ok sc_many_to (fun vs H Q E h => ?_) (fun cdv A outer s H vs Q E hr h => ?_)
  · obtain ⟨f, n, ms, es, len, rfl, _⟩ := h
    rfl
  · obtain ⟨f, n, ms, es, len, rfl, hF, hz, q⟩ := h
    have nd := sc_many_to.nd
    refine ⟨_, (pss_one (ps_ret (pe_meth (E := E0) (pe_make (E := E0) U.mkLayers G_Layers___init__ (hr.mono (by decide)) (by rfl) U.mLayers b_Layers___init__ .nil pass0 (pa_cons (pv 0) pa_nil)) U.cL U.me_shorter G_Layers_shorter (hr.mono (by decide)) b_Layers_shorter .nil pass0 (pa_cons (pe_op op_add (pv 1) pe_int) pa_nil)))), ?_⟩
    refine ⟨_, rfl, fun y dx0 ny nx hne => ly_make hF ny nx hne fun pl B qs H1 s1 npl lq L1 => ?_⟩
    obtain ⟨dx, g, pg, pm, fs, c1, c2, c3, c4, c5, c6, c7, c8, c9⟩ := L1.ins
    refine ⟨y, dx, fs, rfl, L1.sB _ _ c1, c6 _ (by simp), ?_⟩
    clean_wf
    rw [show (fun i j : Int => V.int (i + j)) (len : Nat) 1 = V.int ((len + 1 : Nat) : Int) from congrArg V.int (by omega)]
    exact ⟨B, y, pl, n, ms, es, qs, len + 1, rfl, L1, by omega, by omega, fun qs2 H2 k2 L2 g2 l2 => q H2 (same_but s1 npl k2)⟩
/-- how many words there are, None if they do not end -/
def manyV (n : Nat) (ms : List Mv) (es : List Nat) (b : Bool) : V := if b = true then .non else .int (shN n ms es (n + 1) : Nat)
def spHm (K : PySem.W.Frag) (Z : Ads) : Sp := fun vs H Q _ => ∃ (f : Addr) (n : Nat) (ms : List Mv) (es : List Nat), vs = [.ref f] ∧ FmAt K Z.cF H f n ms es ∧ n ≤ 900 ∧ ∀ (b : Bool) (H2 : Hp), EndB n ms es b → Same H H2 → Q (manyV n ms es b) H2
theorem fo_hm {f0 f1 f2 : Addr} {fd fd1 fd2 : FuncData} (F : Fun K "how_many" "how_many" s_how_many f0 fd) (U : Own K mg Z) (F_is_endless : Fun K "is_endless" "is_endless" s_is_endless f1 fd1) (m_is_endless : mg "is_endless" = some (.ref f1)) (b_is_endless : Binds K fd1 ["form"] []) (G_is_endless : FnOk P w K mg base CX0 2 f1 fd1 ["form"] (spIe K Z))
    (F_many_to : Fun K "many_to" "many_to" s_many_to f2 fd2) (m_many_to : mg "many_to" = some (.ref f2)) (b_many_to : Binds K fd2 ["form", "length"] []) (G_many_to : FnOk P w K mg base CX0 5 f2 fd2 ["form", "length"] (spMt K Z)) (T : Txt mg) : FnOk P w K mg base CX0 6 f0 fd ["form"] (spHm K Z) := by
  refine F.ok sc_how_many (fun vs H Q E h => ?_) (fun cdv A outer s H vs Q E hr h => ?_)
  · obtain ⟨f, n, ms, es, rfl, _⟩ := h
    rfl
  · obtain ⟨f, n, ms, es, rfl, hF, hn, q⟩ := h
    have nd := sc_how_many.nd
    refine ⟨_, (pss_one (ps_ret (pe_ifExp (pt_val (pe_call G_is_endless (hr.mono (by decide)) (by rfl) m_is_endless F_is_endless.kp b_is_endless .nil pass0 (pa_cons (pv 0) pa_nil))) pe_non (pe_call G_many_to (hr.mono (by decide)) (by rfl) m_many_to F_many_to.kp b_many_to .nil pass0 (pa_cons (pv 0) (pa_cons (k_fld (K := K) (pv 0)) pa_nil)))))), ?_⟩
    have hF0 := hF
    obtain ⟨O, dxf, am, ae, de, fsf, f1, f2, f3, f4, f5, f6, f7, f8, fx, f9⟩ := hF
    refine ⟨_, rfl, f, n, ms, es, rfl, hF0, fun b H1 s1 hb => ⟨_, rfl, ?_⟩⟩
    cases b with
    | true => exact ifT rfl (q true H1 hb s1)
    | false =>
      refine ifF rfl ?_
      refine ⟨_, rfl, _, rfl, f, Z.cF, dxf, _, _, rfl, s1 _ _ f1, U.cl, U.fa _ (by simp), f2, ?_⟩
      exact ⟨f, n, ms, es, n, rfl, hF0.same s1, by omega, fun H2 s2 => q false H2 hb (s1.trans s2)⟩
def hasB (n : Nat) (ms : List Mv) (es : List Nat) (b : Bool) (i : Int) : Bool := decide (0 ≤ i) && (b || decide (i < (shN n ms es (n + 1) : Nat)))
def spHn (K : PySem.W.Frag) (Z : Ads) : Sp := fun vs H Q _ => ∃ (f : Addr) (n : Nat) (ms : List Mv) (es : List Nat) (i : Int), vs = [.ref f, .int i] ∧ FmAt K Z.cF H f n ms es ∧ n ≤ 900 ∧ ∀ (b : Bool) (H2 : Hp), EndB n ms es b → Same H H2 → Q (.bl (hasB n ms es b i)) H2
theorem fo_hn {f0 f1 : Addr} {fd fd1 : FuncData} (F : Fun K "has_number" "has_number" s_has_number f0 fd) (F_how_many : Fun K "how_many" "how_many" s_how_many f1 fd1) (m_how_many : mg "how_many" = some (.ref f1)) (b_how_many : Binds K fd1 ["form"] []) (G_how_many : FnOk P w K mg base CX0 6 f1 fd1 ["form"] (spHm K Z)) (T : Txt mg) :
    FnOk P w K mg base CX0 7 f0 fd ["form", "number"] (spHn K Z) := by
  refine F.ok sc_has_number (fun vs H Q E h => ?_) (fun cdv A outer s H vs Q E hr h => ?_)
  · obtain ⟨f, n, ms, es, i, rfl, _⟩ := h
    rfl
  · obtain ⟨f, n, ms, es, i, rfl, hF, hn, q⟩ := h
    have nd := sc_has_number.nd
    refine ⟨_, (pss_cons (ps_set (i := 2) nd rfl (Or.inl rfl) (pe_call G_how_many (hr.mono (by decide)) (by rfl) m_how_many F_how_many.kp b_how_many .nil pass0 (pa_cons (pv 0) pa_nil)))
      (pss_one (ps_ret (pe_and (pe_cmpR op_ge (pv 1) pe_int (nomark _)) (pe_one (pe_or (pe_cmpR op_isN (pv 2) pe_non (nomark _)) (pe_one (pe_cmpR op_lt (pv 1) (pv 2) (nomark _))))))))), ?_⟩
    refine ⟨_, rfl, f, n, ms, es, rfl, hF, hn, fun b H1 hb s1 => ?_⟩
    have q := q b H1 hb s1
    refine ⟨_, rfl, _, _, rfl, rfl, _, rfl, ?_⟩
    by_cases i0 : 0 ≤ i
    · have e : hasB n ms es b i = (b || decide (i < (shN n ms es (n + 1) : Nat))) := by unfold hasB; rw [decide_eq_true i0, Bool.true_and]
      rw [e] at q
      refine ifT (decide_eq_true i0) ?_
      cases b with
      | true =>
        refine ⟨_, rfl, rfl, true, rfl, ifT rfl ?_⟩
        exact q
      | false =>
        refine ⟨_, rfl, rfl, false, rfl, ifF rfl ?_⟩
        exact ⟨_, rfl, _, rfl, _, _, rfl, rfl, q⟩
    · have e : hasB n ms es b i = false := by unfold hasB; rw [decide_eq_false i0, Bool.false_and]
      rw [e] at q
      exact ifF (decide_eq_false i0) q
end
end SG

/-! Words told by numbers, what is raised. -/
namespace SG
open PySem PySem.Spec PyProof PyProof.Rows L2
open SX (S)
local macro_rules
  | `(tactic| clean_wf) => `(tactic| repeat (first | refine ⟨_, rfl, ?_⟩ | refine ⟨rfl, ?_⟩ | refine ⟨_, _, rfl, ?_⟩ | refine ⟨_, _, rfl, rfl, ?_⟩ | refine ⟨_, _, _, rfl, ?_⟩ | refine ⟨_, _, _, _, rfl, ?_⟩))
local macro_rules
  | `(tactic| exists $u:ident, $n:ident, $H:ident, $q:ident, $e:ident) => `(tactic| (refine ⟨by first | exact Nat.zero_le _ | assumption | (simp only [List.length_cons, List.length_nil]; decide), fun $u $n => ?_⟩; generalize hh : upd _ $u _ = $H; obtain ⟨$q, $e⟩ := mkq $n hh; clear hh))
local macro_rules
  | `(tactic| simp_wf) => `(tactic| first | assumption | exact upd_same | (refine (by assumption : Same _ _) _ _ ?_; simp_wf) | (refine (by assumption : Kept _ _ _ _) _ _ ?_ (by assumption) (by assumption); simp_wf))
local macro_rules
  | `(tactic| decreasing_trivial) => `(tactic| first | assumption | exact .inl (.inl (by assumption)) | (refine sameT (by assumption) ?_; decreasing_trivial))
local macro_rules
  | `(tactic| array_get_dec) => `(tactic| first | assumption | (refine CdAt.same (by assumption) ?_; array_get_dec))
theorem placeN_lt (c : Nat → Nat) : ∀ (k l i : Nat) {m r : Nat}, placeN c k l i = some (m, r) → r < c m ∧ l ≤ m ∧ m < l + k
  | 0, _, _, _, _, h => nomatch h
  | k + 1, l, i, m, r, h => by
    unfold placeN at h
    split at h
    · next lt =>
      injection h with h
      injection h with h1 h2
      subst h1 h2
      exact ⟨lt, Nat.le_refl _, by omega⟩
    · obtain ⟨h1, h2, h3⟩ := placeN_lt c k (l + 1) _ h
      exact ⟨h1, by omega, by omega⟩
section
variable {P : Program} {w : World} {K : PySem.W.Frag} {mg : Str → Option Value} {base : Heap} {Z : Ads}
theorem fo_notin {fd : FuncData} (F : Fun K "__init__" "NotIn.__init__" s_NotIn___init__ Z.fN fd) (U : Own K mg Z) : FnOk P w K mg base CX0 1 Z.fN fd ["self", "word"] (spKeep Z.cN "word") := by
  refine F.ok sc_NotIn___init__ (fun vs H Q E h => ?_) (fun cdv A outer s H vs Q E hr h => ?_)
  · obtain ⟨a, v, rfl, _⟩ := h
    rfl
  · obtain ⟨a, v, rfl, ha, q⟩ := h
    have nd := sc_NotIn___init__.nd
    exact ⟨_, (pss_one (ps_one (pv 0) (pv 1))), _, rfl, _, rfl, a, Z.cN, rfl, U.xNotIn, U.nWord, ha, q⟩
theorem fo_toolong {fd : FuncData} (F : Fun K "__init__" "TooLong.__init__" s_TooLong___init__ Z.fT fd) (U : Own K mg Z) : FnOk P w K mg base CX0 1 Z.fT fd ["self", "most"] (spKeep Z.cT "most") := by
  refine F.ok sc_TooLong___init__ (fun vs H Q E h => ?_) (fun cdv A outer s H vs Q E hr h => ?_)
  · obtain ⟨a, v, rfl, _⟩ := h
    rfl
  · obtain ⟨a, v, rfl, ha, q⟩ := h
    have nd := sc_TooLong___init__.nd
    exact ⟨_, (pss_one (ps_one (pv 0) (pv 1))), _, rfl, _, rfl, a, Z.cT, rfl, U.xTooLong, U.nMost, ha, q⟩
def spTw (K : PySem.W.Frag) (Z : Ads) : Sp := fun vs H Q E => ∃ (B : Hp) (a pl : Addr) (n : Nat) (ms : List Mv) (es : List Nat) (qs : List Addr) (i : Nat), vs = [.ref a, .int i] ∧ LyAt K Z B H a pl n ms es qs ∧ qs.length ≤ 2000 ∧
  (∀ l r, placeN (cnt0 n ms es) 201 0 i = some (l, r) → ∀ (qs2 : List Addr) (H2 : Hp), But pl H H2 → LyAt K Z B H2 a pl n ms es qs2 → Grown H qs qs2 → qs2.length ≤ 2000 → Q (.str (S (wordN n ms es 0 l r))) H2) ∧
  (placeN (cnt0 n ms es) 201 0 i = none → ∀ (H2 : Hp) (d : Addr), But pl H H2 → H2 d = some (.xd [("most", .int 200)]) → E (.ref Z.cT) (some d) H2)
theorem fo_tw {f0 : Addr} {fd fd1 : FuncData} (F : Fun K "told_word" "told_word" s_told_word f0 fd) (U : Own K mg Z) (LF : LyF P w K mg base Z) (F_TooLong___init__ : Fun K "__init__" "TooLong.__init__" s_TooLong___init__ Z.fT fd1) (b_TooLong___init__ : Binds K fd1 ["self", "most"] []) (T : Txt mg) :
    FnOk P w K mg base (L2.CX P w) 5 f0 fd ["layers", "number"] (spTw K Z) := by
  have G_TooLong___init__ : FnOk P w K mg base CX0 1 Z.fT fd1 ["self", "most"] (spKeep Z.cT "most") := fo_toolong F_TooLong___init__ U
  obtain ⟨_, b_Layers_place_of, G_Layers_place_of⟩ := LF.po
  obtain ⟨_, b_Layers_word_of, G_Layers_word_of⟩ := LF.wo
  refine F.okX sc_told_word (fun vs H Q E h => ?_) (fun cdv A outer s H vs Q E hr h => ?_)
  · obtain ⟨B, a, pl, n, ms, es, qs, i, rfl, _⟩ := h
    rfl
  · obtain ⟨B, a, pl, n, ms, es, qs, i, rfl, L, lq, qG, qE⟩ := h
    have nd := sc_told_word.nd
    refine ⟨_, (pss_cons (ps_set (i := 2) nd rfl (Or.inl rfl) (pe_meth (E := E0) (pv 0) U.cL U.me_place_of G_Layers_place_of (hr.mono (by decide)) b_Layers_place_of .nil pass0 (pa_cons (pv 1) (pa_cons (pe_glob (v := .int 200) (by rfl) T.MOST.choose_spec ⟨_, rfl⟩) pa_nil))))
      (pss_cons (ps_if (pt_cmpR op_isN (pv 2) pe_non (nomark _)) (pss_one (ps_raise rfl (takes_of rfl rfl rfl rfl) (pmk_one U.xTooLong U.iTooLong U.tTooLong G_TooLong___init__ (hr.mono (by decide)) b_TooLong___init__ pass0 (by rfl) U.mTooLong (pa_cons (pe_glob (v := .int 200) (by rfl) T.MOST.choose_spec ⟨_, rfl⟩) pa_nil)))) pss_nil)
      (pss_one (ps_ret (pe_meth (E := E0) (pv 0) U.cL U.me_word_of G_Layers_word_of (hr.mono (by decide)) b_Layers_word_of .nil pass0 (pa_cons (pe_ix (k_ixT (K := K)) (pv 2) pe_int (fun _ _ => rfl)) (pa_cons (pe_ix (k_ixT (K := K)) (pv 2) pe_int (fun _ _ => rfl)) pa_nil))))))), ?_⟩
    obtain ⟨dx, g, pg, pm, fs, c1, c2, c3, c4, c5, c6, c7, c8, c9⟩ := L.ins
    refine ⟨_, rfl, a, dx, fs, rfl, L.sB _ _ c1, c6 _ (by simp), _, rfl, B, a, pl, n, ms, es, qs, i, 200, rfl, L, lq, by decide, fun x qs2 H2 k2 L2 g2 l2 hx => ?_⟩
    rcases hx with ⟨e, rfl⟩ | ⟨l, r, t, e, rfl, ht⟩
    · refine ⟨_, rfl, rfl, true, rfl, ifT rfl ⟨_, rfl, fun d nd2 => ?_⟩⟩
      exact qE e _ d (but_same k2 (same_new nd2)) upd_same
    · refine ⟨_, rfl, rfl, false, rfl, ifF rfl ?_⟩
      obtain ⟨r1, _, r3⟩ := placeN_lt _ _ _ _ e
      refine ⟨_, rfl, a, dx, fs, rfl, L2.sB _ _ c1, c6 _ (by simp), _, rfl, t, _, 0, _, rfl, rfl, ht, atI_nat (j := 0) rfl, _, rfl, t, _, 1, _, rfl, rfl, ht, atI_nat (j := 1) rfl, ?_⟩
      exact ⟨B, a, pl, n, ms, es, qs2, l, r, rfl, L2, l2, by omega, r1, fun qs3 H3 k3 L3 g3 l3 => qG l r e qs3 H3 (but_trans k2 k3) L3 (Grown.trans k2 (by rw [L2.at_]; nofun) g2 g3) l3⟩
def spWa (K : PySem.W.Frag) (Z : Ads) : Sp := fun vs H Q E => ∃ (f : Addr) (n : Nat) (ms : List Mv) (es : List Nat) (i : Int), vs = [.ref f, .int i] ∧ FmAt K Z.cF H f n ms es ∧ n ≤ 900 ∧ ∀ b, EndB n ms es b →
  (hasB n ms es b i = false → ∀ H2, Same H H2 → Q .non H2) ∧
  (hasB n ms es b i = true → ∀ l r, placeN (cnt0 n ms es) 201 0 i.toNat = some (l, r) → ∀ H2, Same H H2 → Q (.str (S (wordN n ms es 0 l r))) H2) ∧
  (hasB n ms es b i = true → placeN (cnt0 n ms es) 201 0 i.toNat = none → ∀ H2 d, Same H H2 → H2 d = some (.xd [("most", .int 200)]) → E (.ref Z.cT) (some d) H2)
theorem fo_wa {f0 f1 f2 : Addr} {fd fd1 fd2 : FuncData} (F : Fun K "word_at" "word_at" s_word_at f0 fd) (U : Own K mg Z) (LF : LyF P w K mg base Z) (F_told_word : Fun K "told_word" "told_word" s_told_word f1 fd1) (m_told_word : mg "told_word" = some (.ref f1)) (b_told_word : Binds K fd1 ["layers", "number"] []) (G_told_word : FnOk P w K mg base (L2.CX P w) 5 f1 fd1 ["layers", "number"] (spTw K Z))
    (F_has_number : Fun K "has_number" "has_number" s_has_number f2 fd2) (m_has_number : mg "has_number" = some (.ref f2)) (b_has_number : Binds K fd2 ["form", "number"] []) (G_has_number : FnOk P w K mg base CX0 7 f2 fd2 ["form", "number"] (spHn K Z)) (T : Txt mg) :
    FnOk P w K mg base (L2.CX P w) 8 f0 fd ["form", "number"] (spWa K Z) := by
  obtain ⟨_, b_Layers___init__, G_Layers___init__⟩ := LF.i
  refine F.okX sc_word_at (fun vs H Q E h => ?_) (fun cdv A outer s H vs Q E hr h => ?_)
  · obtain ⟨f, n, ms, es, i, rfl, _⟩ := h
    rfl
  · obtain ⟨f, n, ms, es, i, rfl, hF, hn, q⟩ := h
    have nd := sc_word_at.nd
    refine ⟨_, (pss_one (ps_ret (pe_ifExp (pt_val (pe_call G_has_number (hr.mono (by decide)) (by rfl) m_has_number F_has_number.kp b_has_number .nil pass0 (pa_cons (pv 0) (pa_cons (pv 1) pa_nil)))) (pe_callS G_told_word (hr.mono (by decide)) (by rfl) m_told_word F_told_word.kp b_told_word (fun σ => passAt (takes_of rfl rfl rfl rfl) σ) (pa_cons (pe_make (E := E0) U.mkLayers G_Layers___init__ (hr.mono (by decide)) (by rfl) U.mLayers b_Layers___init__ .nil pass0 (pa_cons (pv 0) pa_nil)) (pa_cons (pv 1) pa_nil))) pe_non))), ?_⟩
    refine ⟨_, rfl, _, rfl, f, n, ms, es, i, rfl, hF, hn, fun b H1 hb s1 => ⟨_, rfl, ?_⟩⟩
    obtain ⟨q1, q2, q3⟩ := q b hb
    cases e : hasB n ms es b i with
    | false => exact ifF rfl (q1 e H1 s1)
    | true =>
      refine ifT rfl ?_
      have i0 : 0 ≤ i := by
        unfold hasB at e
        rw [Bool.and_eq_true, decide_eq_true_eq] at e
        exact e.1
      refine ⟨_, rfl, fun y dx0 ny nx hne => ly_make (hF.same s1) ny nx hne fun pl B qs H2 s2 npl lq L2 => ?_⟩
      have npl0 := s1.free npl
      refine ⟨_, rfl, B, y, pl, n, ms, es, qs, i.toNat, by rw [Int.toNat_of_nonneg i0], L2, by omega, fun l r el qs3 H3 k3 L3 g3 l3 => ?_, fun en H3 d k3 hd => ?_⟩
      · exact q2 e l r el H3 (same_but (s1.trans s2) npl0 k3)
      · exact q3 e en H3 d (same_but (s1.trans s2) npl0 k3) hd
def spNo (K : PySem.W.Frag) (Z : Ads) : Sp := fun vs H Q E => ∃ (f : Addr) (n : Nat) (ms : List Mv) (es : List Nat) (z : Str), vs = [.ref f, .str z] ∧ FmAt K Z.cF H f n ms es ∧ z.length ≤ 900 ∧
  (hasW ms es z.cps.toList = true → ∀ H2, Same H H2 → Q (.int (ahdN n ms es z.cps.toList : Nat)) H2) ∧
  (hasW ms es z.cps.toList = false → ∀ H2 d, Same H H2 → H2 d = some (.xd [("word", .str z)]) → E (.ref Z.cN) (some d) H2)
theorem fo_no {f0 f1 : Addr} {fd fd1 fd2 fd3 : FuncData} (F : Fun K "number_of" "number_of" s_number_of f0 fd) (U : Own K mg Z) (F_how_many_ahead : Fun K "how_many_ahead" "how_many_ahead" s_how_many_ahead f1 fd1) (m_how_many_ahead : mg "how_many_ahead" = some (.ref f1)) (b_how_many_ahead : Binds K fd1 ["form", "text"] []) (G_how_many_ahead : FnOk P w K mg base CX0 5 f1 fd1 ["form", "text"] (spAh K Z))
    (b_Format_has : Binds K fd2 ["self", "thing"] []) (G_Format_has : FnOk P w K mg base CX0 2 Z.has fd2 ["self", "thing"] (spHas K Z.cF)) (F_NotIn___init__ : Fun K "__init__" "NotIn.__init__" s_NotIn___init__ Z.fN fd3) (b_NotIn___init__ : Binds K fd3 ["self", "word"] []) (T : Txt mg) :
    FnOk P w K mg base (L2.CX P w) 6 f0 fd ["form", "word"] (spNo K Z) := by
  have G_NotIn___init__ : FnOk P w K mg base CX0 1 Z.fN fd3 ["self", "word"] (spKeep Z.cN "word") := fo_notin F_NotIn___init__ U
  refine F.okX sc_number_of (fun vs H Q E h => ?_) (fun cdv A outer s H vs Q E hr h => ?_)
  · obtain ⟨f, n, ms, es, z, rfl, _⟩ := h
    rfl
  · obtain ⟨f, n, ms, es, z, rfl, hF, hz, q1, q2⟩ := h
    have nd := sc_number_of.nd
    refine ⟨_, (pss_cons (ps_if (pt_not (pt_val (pe_meth (E := E0) (pv 0) U.cl U.me_has G_Format_has (hr.mono (by decide)) b_Format_has .nil pass0 (pa_cons (pv 1) pa_nil)))) (pss_one (ps_raise rfl (takes_of rfl rfl rfl rfl) (pmk_one U.xNotIn U.iNotIn U.tNotIn G_NotIn___init__ (hr.mono (by decide)) b_NotIn___init__ pass0 (by rfl) U.mNotIn (pa_cons (pv 1) pa_nil)))) pss_nil)
      (pss_one (ps_ret (pe_call G_how_many_ahead (hr.mono (by decide)) (by rfl) m_how_many_ahead F_how_many_ahead.kp b_how_many_ahead .nil pass0 (pa_cons (pv 0) (pa_cons (pv 1) pa_nil)))))), ?_⟩
    have hF0 := hF
    obtain ⟨O, dxf, am, ae, de, fsf, f1, f2, f3, f4, f5, f6, f7, f8, fx, f9⟩ := hF
    refine ⟨_, rfl, f, dxf, fsf, rfl, f1, f9 _ (by simp), _, rfl, f, n, ms, es, z, rfl, hF0, by omega, fun H1 s1 => ⟨_, rfl, ?_⟩⟩
    cases e : hasW ms es z.cps.toList with
    | false => exact ifT rfl ⟨_, rfl, _, rfl, fun d nd2 => q2 e _ d (s1.trans (same_new nd2)) upd_same⟩
    | true =>
      refine ifF rfl ⟨_, rfl, _, rfl, f, n, ms, es, z, rfl, hF0.same s1, hz, fun H2 s2 => q1 e H2 (s1.trans s2)⟩
def spSt (K : PySem.W.Frag) (Z : Ads) : Sp := fun vs H Q E => ∃ (f : Addr) (n : Nat) (ms : List Mv) (es : List Nat) (z : Str) (by_ : Int), vs = [.ref f, .str z, .int by_] ∧ FmAt K Z.cF H f n ms es ∧ n ≤ 900 ∧ z.length ≤ 900 ∧
  (hasW ms es z.cps.toList = false → ∀ H2 d, Same H H2 → H2 d = some (.xd [("word", .str z)]) → E (.ref Z.cN) (some d) H2) ∧
  (hasW ms es z.cps.toList = true → ∀ b, EndB n ms es b →
    (hasB n ms es b ((ahdN n ms es z.cps.toList : Nat) + by_) = false → ∀ H2, Same H H2 → Q .non H2) ∧
    (hasB n ms es b ((ahdN n ms es z.cps.toList : Nat) + by_) = true → ∀ l r, placeN (cnt0 n ms es) 201 0 ((ahdN n ms es z.cps.toList : Nat) + by_).toNat = some (l, r) → ∀ H2, Same H H2 → Q (.str (S (wordN n ms es 0 l r))) H2) ∧
    (hasB n ms es b ((ahdN n ms es z.cps.toList : Nat) + by_) = true → placeN (cnt0 n ms es) 201 0 ((ahdN n ms es z.cps.toList : Nat) + by_).toNat = none → ∀ H2 d, Same H H2 → H2 d = some (.xd [("most", .int 200)]) → E (.ref Z.cT) (some d) H2))
theorem fo_st {f0 f1 f2 : Addr} {fd fd1 fd2 : FuncData} (F : Fun K "step" "step" s_step f0 fd) (F_word_at : Fun K "word_at" "word_at" s_word_at f1 fd1) (m_word_at : mg "word_at" = some (.ref f1)) (b_word_at : Binds K fd1 ["form", "number"] []) (G_word_at : FnOk P w K mg base (L2.CX P w) 8 f1 fd1 ["form", "number"] (spWa K Z))
    (F_number_of : Fun K "number_of" "number_of" s_number_of f2 fd2) (m_number_of : mg "number_of" = some (.ref f2)) (b_number_of : Binds K fd2 ["form", "word"] []) (G_number_of : FnOk P w K mg base (L2.CX P w) 6 f2 fd2 ["form", "word"] (spNo K Z)) (T : Txt mg) :
    FnOk P w K mg base (L2.CX P w) 9 f0 fd ["form", "word", "by"] (spSt K Z) := by
  refine F.okX sc_step (fun vs H Q E h => ?_) (fun cdv A outer s H vs Q E hr h => ?_)
  · obtain ⟨f, n, ms, es, z, by_, rfl, _⟩ := h
    rfl
  · obtain ⟨f, n, ms, es, z, by_, rfl, hF, hn, hz, q1, q2⟩ := h
    have nd := sc_step.nd
    refine ⟨_, (pss_one (ps_ret (pe_callS G_word_at (hr.mono (by decide)) (by rfl) m_word_at F_word_at.kp b_word_at (fun σ => passAt (takes_of rfl rfl rfl rfl) σ) (pa_cons (pv 0) (pa_cons (pe_op op_add (pe_callS G_number_of (hr.mono (by decide)) (by rfl) m_number_of F_number_of.kp b_number_of (fun σ => passAt (takes_of rfl rfl rfl rfl) σ) (pa_cons (pv 0) (pa_cons (pv 1) pa_nil))) (pv 2)) pa_nil))))), ?_⟩
    refine ⟨_, rfl, _, rfl, _, rfl, f, n, ms, es, z, rfl, hF, hz, fun e H1 s1 => ?_, fun e H1 d s1 hd => q1 e H1 d s1 hd⟩
    refine ⟨_, rfl, _, _, rfl, rfl, f, n, ms, es, _, rfl, hF.same s1, hn, fun b hb => ?_⟩
    obtain ⟨q3, q4, q5⟩ := q2 e b hb
    exact ⟨fun e2 H2 s2 => q3 e2 H2 (s1.trans s2), fun e2 l r e3 H2 s2 => q4 e2 l r e3 H2 (s1.trans s2), fun e2 e3 H2 d s2 hd => q5 e2 e3 H2 d (s1.trans s2) hd⟩
end
end SG

/-! Walks, loops, numbers of words. -/
namespace SG
open PySem PySem.Spec PyProof PyProof.Rows L2
def Edge (ms : List Mv) (s t : Nat) : Prop := ∃ m ∈ ms, m.1 = s ∧ m.2.2 = t
def Wk (ms : List Mv) (k s t : Nat) : Prop := ∃ f : Nat → Nat, f 0 = s ∧ f k = t ∧ ∀ i, i < k → Edge ms (f i) (f (i + 1))
theorem Wk.nil {ms : List Mv} {s : Nat} : Wk ms 0 s s := ⟨fun _ => s, rfl, rfl, fun i h => absurd h (Nat.not_lt_zero _)⟩
theorem Wk.one {ms : List Mv} {s t : Nat} (h : Edge ms s t) : Wk ms 1 s t := ⟨fun i => if i = 0 then s else t, rfl, rfl, fun i hi => by
  obtain rfl : i = 0 := by omega
  exact h⟩
theorem Wk.app {ms : List Mv} {a b s u t : Nat} (h1 : Wk ms a s u) (h2 : Wk ms b u t) : Wk ms (a + b) s t := by
  obtain ⟨f, f0, fa, fe⟩ := h1
  obtain ⟨g, g0, gb, ge⟩ := h2
  refine ⟨fun i => if i ≤ a then f i else g (i - a), by simp [f0], ?_, fun i hi => ?_⟩
  · by_cases z : a + b ≤ a
    · have : b = 0 := by omega
      subst this
      simp [fa, ← gb, g0]
    · simp only [z, if_false]
      rw [show a + b - a = b by omega, gb]
  · by_cases z : i < a
    · show Edge ms (if i ≤ a then f i else g (i - a)) (if i + 1 ≤ a then f (i + 1) else g (i + 1 - a))
      rw [if_pos (by omega), if_pos (by omega)]
      exact fe i z
    · by_cases y : i = a
      · subst y
        show Edge ms (if i ≤ i then f i else g (i - i)) (if i + 1 ≤ i then f (i + 1) else g (i + 1 - i))
        rw [if_pos (Nat.le_refl _), if_neg (by omega), fa, ← g0, show i + 1 - i = 0 + 1 by omega]
        exact ge 0 (by omega)
      · show Edge ms (if i ≤ a then f i else g (i - a)) (if i + 1 ≤ a then f (i + 1) else g (i + 1 - a))
        rw [if_neg (by omega), if_neg (by omega), show i + 1 - a = (i - a) + 1 by omega]
        exact ge (i - a) (by omega)
theorem wk_cut {ms : List Mv} {f : Nat → Nat} {k : Nat} (fe : ∀ i, i < k → Edge ms (f i) (f (i + 1))) {i j : Nat} (h : i ≤ j) (hj : j ≤ k) : Wk ms (j - i) (f i) (f j) :=
  ⟨fun x => f (i + x), rfl, congrArg f (by omega), fun x hx => fe (i + x) (by omega)⟩
/-- among so many states one comes twice -/
theorem pigeon {n : Nat} {f : Nat → Nat} (lt : ∀ i, i ≤ n → f i < n) : ∃ i j, i < j ∧ j ≤ n ∧ f i = f j := by
  refine Classical.byContradiction fun hn => ?_
  have nd : ((List.range (n + 1)).map f).Nodup := by
    refine List.pairwise_map.mpr ?_
    refine List.Pairwise.imp_of_mem ?_ List.pairwise_lt_range
    intro a b ha hb hab e
    exact hn ⟨a, b, hab, by have := List.mem_range.mp hb; omega, e⟩
  have z := nodup_len nd (n := n) fun x hx => by
    obtain ⟨i, hi, rfl⟩ := List.mem_map.mp hx
    exact lt i (by have := List.mem_range.mp hi; omega)
  rw [List.length_map, List.length_range] at z
  omega
theorem wk_lt {n : Nat} {ms : List Mv} {es : List Nat} (O : FmOk n ms es) {f : Nat → Nat} {k : Nat} (fe : ∀ i, i < k → Edge ms (f i) (f (i + 1))) (f0 : f 0 < n) : ∀ i, i ≤ k → f i < n
  | 0, _ => f0
  | i + 1, h => by
    obtain ⟨m, hm, _, e⟩ := fe i (by omega)
    rw [← e]
    exact (O.ok m hm).2.2
/-- a long walk has a loop -/
theorem wk_loop {n : Nat} {ms : List Mv} {es : List Nat} (O : FmOk n ms es) {k s t : Nat} (h : Wk ms k s t) (hs : s < n) (hk : n ≤ k) : ∃ c, 1 ≤ c ∧ c ≤ n ∧ Wk ms (k - c) s t ∧ ∀ j, Wk ms (k + j * c) s t := by
  obtain ⟨f, f0, fk, fe⟩ := h
  have lt := wk_lt O fe (by rw [f0]; exact hs)
  obtain ⟨i, j, ij, jn, e⟩ := pigeon (n := n) (f := f) fun i hi => lt i (by omega)
  have w1 := wk_cut fe (Nat.zero_le i) (show i ≤ k by omega)
  have w2 := wk_cut fe (Nat.le_of_lt ij) (show j ≤ k by omega)
  have w3 := wk_cut fe (show j ≤ k by omega) (Nat.le_refl k)
  rw [f0, Nat.sub_zero] at w1
  rw [fk] at w3
  rw [← e] at w2 w3
  refine ⟨j - i, by omega, by omega, ?_, fun x => ?_⟩
  · have := w1.app w3
    rwa [show i + (k - j) = k - (j - i) by omega] at this
  · have lp : ∀ x, Wk ms (x * (j - i)) (f i) (f i) := fun x => by
      induction x with
      | zero => rw [Nat.zero_mul]; exact .nil
      | succ x ih => rw [Nat.succ_mul]; exact ih.app w2
    have := w1.app ((lp (x + 1)).app w3)
    rwa [show i + ((x + 1) * (j - i) + (k - j)) = k + x * (j - i) by rw [Nat.succ_mul]; omega] at this
theorem wk_succ {ms : List Mv} {k s t : Nat} : Wk ms (k + 1) s t ↔ ∃ u, Edge ms s u ∧ Wk ms k u t := by
  constructor
  · rintro ⟨f, f0, fk, fe⟩
    refine ⟨f 1, by rw [← f0]; exact fe 0 (by omega), ?_⟩
    have := wk_cut fe (show 1 ≤ k + 1 by omega) (Nat.le_refl _)
    rwa [fk] at this
  · rintro ⟨u, h1, h2⟩
    have := (Wk.one h1).app h2
    rwa [Nat.add_comm] at this
theorem ends_get {n s : Nat} {es : List Nat} (h : s < n) : (endsOf n es).getD s 0 = if s ∈ es then 1 else 0 := by
  unfold endsOf
  rw [List.getD_eq_getElem?_getD, List.getElem?_map, List.getElem?_range h]
  rfl
theorem sum_pos {l : List Nat} : 0 < l.sum ↔ ∃ x ∈ l, 0 < x := by
  induction l with
  | nil => simp
  | cons a l ih =>
    rw [List.sum_cons]
    constructor
    · intro h
      by_cases z : 0 < a
      · exact ⟨a, List.mem_cons_self, z⟩
      · obtain ⟨x, hx, e⟩ := ih.mp (by omega)
        exact ⟨x, List.mem_cons_of_mem _ hx, e⟩
    · rintro ⟨x, hx, e⟩
      rcases List.mem_cons.mp hx with rfl | hx
      · omega
      · have := ih.mpr ⟨x, hx, e⟩
        omega
/-- there are words of a length exactly where a walk leads to an end -/
theorem cnt_wk {n : Nat} {ms : List Mv} {es : List Nat} (O : FmOk n ms es) : ∀ (k s : Nat), s < n → (0 < (cAt n ms es k).getD s 0 ↔ ∃ e ∈ es, Wk ms k s e)
  | 0, s, hs => by
    rw [cAt, ends_get hs]
    constructor
    · intro h
      split at h
      · next m => exact ⟨s, m, .nil⟩
      · omega
    · rintro ⟨e, he, f, f0, fk, _⟩
      rw [if_pos (by rw [← f0, fk]; exact he)]
      omega
  | k + 1, s, hs => by
    rw [← wts_sum (fun m hm => (O.ok m hm).1) hs, sum_pos]
    unfold wts prw
    constructor
    · rintro ⟨x, hx, h0⟩
      obtain ⟨p, hp, rfl⟩ := List.mem_map.mp hx
      obtain ⟨m, hm, rfl⟩ := List.mem_map.mp hp
      obtain ⟨h1, h2⟩ := List.mem_filter.mp hm
      obtain ⟨e, he, w⟩ := (cnt_wk O k _ (O.ok m h1).2.2).mp h0
      exact ⟨e, he, wk_succ.mpr ⟨_, ⟨m, h1, of_decide_eq_true h2, rfl⟩, w⟩⟩
    · rintro ⟨e, he, w⟩
      obtain ⟨u, ⟨m, hm, rfl, rfl⟩, w2⟩ := wk_succ.mp w
      refine ⟨_, List.mem_map.mpr ⟨m.2, List.mem_map.mpr ⟨m, List.mem_filter.mpr ⟨hm, decide_eq_true rfl⟩, rfl⟩, rfl⟩, ?_⟩
      exact (cnt_wk O k _ (O.ok m hm).2.2).mpr ⟨e, he, w2⟩
theorem met_wk {ms : List Mv} {s : Nat} : MetS ms s ↔ ∃ k, Wk ms k 0 s := by
  constructor
  · intro h
    unfold MetS at h
    induction h with
    | base hs =>
      rw [List.mem_singleton.mp hs]
      exact ⟨0, .nil⟩
    | step _ hg ih =>
      obtain ⟨k, w⟩ := ih
      obtain ⟨m, hm, e1, e2⟩ := mem_fwd.mp hg
      exact ⟨k + 1, w.app (.one ⟨m, hm, e1, e2⟩)⟩
  · rintro ⟨k, f, f0, rfl, fe⟩
    have : ∀ i, i ≤ k → MetS ms (f i) := by
      intro i
      induction i with
      | zero => exact fun _ => .base (by rw [f0]; exact List.mem_singleton.mpr rfl)
      | succ i ih =>
        intro hi
        exact .step (ih (by omega)) (mem_fwd.mpr (by
          obtain ⟨m, hm, e⟩ := fe i (by omega)
          exact ⟨m, hm, e⟩))
    exact this k (Nat.le_refl _)
theorem live_wk {ms : List Mv} {es : List Nat} {s : Nat} : LiveS ms es s ↔ ∃ k, ∃ e ∈ es, Wk ms k s e := by
  constructor
  · intro h
    unfold LiveS at h
    induction h with
    | base hs => exact ⟨0, _, hs, .nil⟩
    | step _ hg ih =>
      obtain ⟨k, e, he, w⟩ := ih
      obtain ⟨m, hm, e1, e2⟩ := mem_bwd.mp hg
      exact ⟨k + 1, e, he, wk_succ.mpr ⟨_, ⟨m, hm, e1, e2⟩, w⟩⟩
  · rintro ⟨k, e, he, w⟩
    induction k generalizing s with
    | zero =>
      obtain ⟨f, f0, fk, _⟩ := w
      rw [← f0, fk]
      exact .base he
    | succ k ih =>
      obtain ⟨u, ⟨m, hm, e1, e2⟩, w2⟩ := wk_succ.mp w
      exact .step (ih w2) (mem_bwd.mpr ⟨m, hm, e1, e2⟩)
theorem cntP_edge {ms : List Mv} {us : List Nat} {s g : Nat} : cntP (prw (useM ms us) s) g ≠ 0 ↔ (Edge ms s g ∧ s ∈ us ∧ g ∈ us) := by
  unfold cntP prw useM
  rw [← Nat.pos_iff_ne_zero, List.length_pos_iff_exists_mem]
  constructor
  · rintro ⟨p, hp⟩
    obtain ⟨h1, h2⟩ := List.mem_filter.mp hp
    obtain ⟨m, hm, rfl⟩ := List.mem_map.mp h1
    obtain ⟨h3, h4⟩ := List.mem_filter.mp hm
    obtain ⟨h5, h6⟩ := List.mem_filter.mp h3
    rw [Bool.and_eq_true, decide_eq_true_eq, decide_eq_true_eq] at h6
    have e1 := of_decide_eq_true h4
    have e2 := of_decide_eq_true h2
    exact ⟨⟨m, h5, e1, e2⟩, e1 ▸ h6.1, e2 ▸ h6.2⟩
  · rintro ⟨⟨m, hm, rfl, rfl⟩, h1, h2⟩
    refine ⟨m.2, List.mem_filter.mpr ⟨List.mem_map.mpr ⟨m, List.mem_filter.mpr ⟨List.mem_filter.mpr ⟨hm, by simp [h1, h2]⟩, decide_eq_true rfl⟩, rfl⟩, decide_eq_true rfl⟩⟩
theorem topo_len {mu : List Mv} {us : List Nat} : ∀ {τ : List Nat}, TopoL mu us τ → ∀ (k : Nat) (f : Nat → Nat), (∀ i, i ≤ k → f i ∈ us) → (∀ i, i < k → cntP (prw mu (f i)) (f (i + 1)) ≠ 0) → f k ∈ τ → k + 1 ≤ τ.length
  | [], _, _, _, _, _, h => nomatch h
  | t :: r, T, k, f, h1, h2, h => by
    rw [List.length_cons]
    rcases List.mem_cons.mp h with e | e
    · cases k with
      | zero => omega
      | succ k =>
        have z := T.1 (f k) (h1 k (by omega)) (by rw [← e]; exact h2 k (by omega))
        have := topo_len T.2 k f (fun i hi => h1 i (by omega)) (fun i hi => h2 i (by omega)) z
        omega
    · have := topo_len T.2 k f h1 h2 e
      omega
/-- endless: there are words of at least so many letters as states -/
theorem endless_iff {n : Nat} {ms : List Mv} {es : List Nat} (O : FmOk n ms es) {b : Bool} (E : EndB n ms es b) : b = true ↔ ∃ k, n ≤ k ∧ 0 < cnt0 n ms es k := by
  obtain ⟨us, Us, h⟩ := E
  rcases h with ⟨rfl, R, ne, hR⟩ | ⟨rfl, τ, h1, h2, h3, T⟩
  · refine ⟨fun _ => ?_, fun _ => rfl⟩
    have back : ∀ k, ∀ g ∈ R, ∃ s ∈ R, Wk ms k s g := by
      intro k
      induction k with
      | zero => exact fun g hg => ⟨g, hg, .nil⟩
      | succ k ih =>
        intro g hg
        obtain ⟨_, s, hs, c⟩ := hR g hg
        obtain ⟨u, hu, w⟩ := ih s hs
        exact ⟨u, hu, w.app (.one (cntP_edge.mp c).1)⟩
    obtain ⟨g, hg⟩ : ∃ g, g ∈ R := List.exists_mem_of_ne_nil R ne
    obtain ⟨s, hs, w⟩ := back n g hg
    obtain ⟨a, wa⟩ := met_wk.mp ((Us.is s).mp (hR s hs).1).1
    obtain ⟨c, e, he, wc⟩ := live_wk.mp ((Us.is g).mp (hR g hg).1).2
    exact ⟨a + n + c, by omega, (cnt_wk O _ _ O.n0).mpr ⟨e, he, (wa.app w).app wc⟩⟩
  · refine ⟨fun z => (Bool.noConfusion z : _), fun h => ?_⟩
    obtain ⟨k, hk, hc⟩ := h
    exfalso
    obtain ⟨e, he, f, f0, fk, fe⟩ := (cnt_wk O _ _ O.n0).mp hc
    have fu : ∀ i, i ≤ k → f i ∈ us := fun i hi => (Us.is _).mpr ⟨met_wk.mpr ⟨i, by have := wk_cut fe (Nat.zero_le i) hi; rwa [f0, Nat.sub_zero] at this⟩, live_wk.mpr ⟨k - i, e, he, by have := wk_cut fe hi (Nat.le_refl k); rwa [fk] at this⟩⟩
    have z := topo_len T k f fu (fun i hi => cntP_edge.mpr ⟨fe i hi, fu i (by omega), fu (i + 1) (by omega)⟩) (h1 _ (fu k (Nat.le_refl _)))
    have y := List.Nodup.length_le_of_subset h2 (fun x hx => h3 x hx)
    have x := nodup_len (Us.up.imp Nat.ne_of_lt) Us.lt
    omega
/-- then there are such of at most twice so many -/
theorem long_small {n : Nat} {ms : List Mv} {es : List Nat} (O : FmOk n ms es) : ∀ k, n ≤ k → 0 < cnt0 n ms es k → ∃ j, n ≤ j ∧ j < 2 * n ∧ 0 < cnt0 n ms es j := by
  intro k
  induction k using Nat.strongRecOn with
  | ind k ih =>
    intro hk hc
    by_cases z : k < 2 * n
    · exact ⟨k, hk, z, hc⟩
    obtain ⟨e, he, w⟩ := (cnt_wk O _ _ O.n0).mp hc
    obtain ⟨c, c1, c2, w2, _⟩ := wk_loop O w O.n0 hk
    exact ih (k - c) (by omega) (by omega) ((cnt_wk O _ _ O.n0).mpr ⟨e, he, w2⟩)
/-- and then each so many lengths there are words -/
theorem long_all {n : Nat} {ms : List Mv} {es : List Nat} (O : FmOk n ms es) {k : Nat} (hk : n ≤ k) (hc : 0 < cnt0 n ms es k) (a : Nat) (ha : 2 * n ≤ a) : ∃ j, a ≤ j ∧ j < a + n ∧ 0 < cnt0 n ms es j := by
  obtain ⟨k, k1, k2, hc⟩ := long_small O k hk hc
  obtain ⟨e, he, w⟩ := (cnt_wk O _ _ O.n0).mp hc
  obtain ⟨c, c1, c2, _, w2⟩ := wk_loop O w O.n0 k1
  have q := Nat.div_add_mod (a - k + (c - 1)) c
  have r := Nat.mod_lt (a - k + (c - 1)) (show 0 < c by omega)
  rw [Nat.mul_comm] at q
  refine ⟨k + (a - k + (c - 1)) / c * c, by omega, by omega, (cnt_wk O _ _ O.n0).mpr ⟨e, he, w2 _⟩⟩
theorem shN_succ (n : Nat) (ms : List Mv) (es : List Nat) (k : Nat) : shN n ms es (k + 1) = shN n ms es k + cnt0 n ms es k := by
  unfold shN
  rw [List.range_succ, List.map_append, List.sum_append]
  simp
theorem shN_mono {n : Nat} {ms : List Mv} {es : List Nat} {a b : Nat} (h : a ≤ b) : shN n ms es a ≤ shN n ms es b := by
  induction h with
  | refl => exact Nat.le_refl _
  | step _ ih =>
    rw [shN_succ]
    omega
theorem shN_pos {n : Nat} {ms : List Mv} {es : List Nat} {a b j : Nat} (h1 : a ≤ j) (h2 : j < b) (hc : 0 < cnt0 n ms es j) : shN n ms es a < shN n ms es b := by
  have x := shN_mono (n := n) (ms := ms) (es := es) h1
  have y := shN_mono (n := n) (ms := ms) (es := es) (show j + 1 ≤ b by omega)
  rw [shN_succ] at y
  omega
/-- of endlessly many words there are j more within j times so many lengths as states -/
theorem long_sum {n : Nat} {ms : List Mv} {es : List Nat} (O : FmOk n ms es) {k : Nat} (hk : n ≤ k) (hc : 0 < cnt0 n ms es k) {a : Nat} (ha : 2 * n ≤ a) : ∀ j, shN n ms es a + j ≤ shN n ms es (a + j * n)
  | 0 => by rw [Nat.zero_mul]; exact Nat.le_refl _
  | j + 1 => by
    have ih := long_sum O hk hc ha j
    obtain ⟨x, x1, x2, x3⟩ := long_all O hk hc (a + j * n) (by omega)
    have := shN_pos x1 (show x < a + (j + 1) * n by rw [Nat.succ_mul]; omega) x3
    omega
theorem few_sum {n : Nat} {ms : List Mv} {es : List Nat} (h : ∀ k, n ≤ k → ¬ 0 < cnt0 n ms es k) {a : Nat} (ha : n ≤ a) : shN n ms es a = shN n ms es n := by
  induction ha with
  | refl => rfl
  | step hk ih =>
    rw [shN_succ, ih]
    have := h _ hk
    omega
end SG

/-! Words and their numbers, each told by the other. -/
namespace SG
open PySem PySem.Spec PyProof PyProof.Rows L2
open SX (S)
theorem filt_take : ∀ (l : List (Nat × Nat)), l.Pairwise (fun a b => a.1 < b.1) → ∀ (p : Nat) (x : Nat × Nat), l[p]? = some x → (l.filter fun y => decide (y.1 < x.1)) = l.take p
  | [], _, p, x, h => nomatch h
  | a :: l, h, 0, x, e => by
    obtain rfl := Option.some.inj e
    rw [List.take_zero, List.filter_cons_of_neg (by simp)]
    refine List.filter_eq_nil_iff.mpr fun y hy => ?_
    have := (List.pairwise_cons.mp h).1 y hy
    simp
    omega
  | a :: l, h, p + 1, x, e => by
    have e2 : l[p]? = some x := e
    have := (List.pairwise_cons.mp h).1 x (List.mem_of_getElem? e2)
    rw [List.take_succ_cons, List.filter_cons_of_pos (by simp [this]), filt_take l (List.pairwise_cons.mp h).2 p x e2]
theorem prw_up {n : Nat} {ms : List Mv} {es : List Nat} (O : FmOk n ms es) (s : Nat) : (prw ms s).Pairwise (fun a b => a.1 < b.1) := by
  unfold prw
  refine List.pairwise_map.mpr ?_
  refine List.Pairwise.imp_of_mem ?_ ((pw_lat O.up).sublist List.filter_sublist)
  intro a b ha hb h
  have e1 := of_decide_eq_true (List.mem_filter.mp ha).2
  have e2 := of_decide_eq_true (List.mem_filter.mp hb).2
  unfold Lat at h
  omega
theorem prw_nxt {n : Nat} {ms : List Mv} {es : List Nat} (O : FmOk n ms es) {s : Nat} {p : Nat × Nat} (h : p ∈ prw ms s) : nxt ms s p.1 = some p.2 := by
  obtain ⟨m, hm, rfl⟩ := List.mem_map.mp h
  obtain ⟨h1, h2⟩ := List.mem_filter.mp hm
  have e := of_decide_eq_true h2
  rw [← e]
  exact nxt_mem (sng_pw (pw_lat O.up)) h1
/-- a word with a number: its length, that it leads to an end, its number -/
theorem word_ok {n : Nat} {ms : List Mv} {es : List Nat} (O : FmOk n ms es) : ∀ (k s i : Nat), s < n → i < (cAt n ms es k).getD s 0 →
    (wordN n ms es s k i).length = k ∧ isEndO es (ledW ms s (wordN n ms es s k i)) = true ∧ lesN n ms es s (wordN n ms es s k i) = i
  | 0, s, i, hs, hi => by
    rw [cAt, ends_get hs] at hi
    split at hi
    · next m =>
      refine ⟨rfl, decide_eq_true m, ?_⟩
      show 0 = i
      omega
    · omega
  | k + 1, s, i, hs, hi => by
    rw [← wts_sum (fun m hm => (O.ok m hm).1) hs] at hi
    obtain ⟨g1, g2, g3⟩ := gre_ok _ _ hi
    rw [wordN]
    have wl : (wts n ms es s k).length = (prw ms s).length := by unfold wts; rw [List.length_map]
    generalize gre (wts n ms es s k) i = PR at g1 g2 g3
    obtain ⟨p, r⟩ := PR
    dsimp only at g1 g2 g3 ⊢
    have hp : p < (prw ms s).length := by omega
    have ex : (prw ms s)[p]? = some (prw ms s)[p] := List.getElem?_eq_getElem hp
    have ed : (prw ms s).getD p (0, 0) = (prw ms s)[p] := by rw [List.getD_eq_getElem?_getD, ex]; rfl
    have ew : (wts n ms es s k).getD p 0 = (cAt n ms es k).getD (prw ms s)[p].2 0 := by
      unfold wts
      rw [List.getD_eq_getElem?_getD, List.getElem?_map, ex]
      rfl
    rw [ed]
    have en := prw_nxt O (List.mem_of_getElem? ex)
    have ft := filt_take _ (prw_up O s) p _ ex
    have ot := (prw_ok O _ (List.mem_of_getElem? ex)).1
    generalize (prw ms s)[p] = x at en ft ew ot
    rw [ew] at g2
    obtain ⟨h1, h2, h3⟩ := word_ok O k x.2 r ot g2
    refine ⟨by rw [List.length_cons, h1], ?_, ?_⟩
    · rw [ledW, en]
      exact h2
    · rw [lesN, en, h1]
      show lesR n ms es s x.1 k + lesN n ms es x.2 _ = i
      rw [h3, g3]
      unfold lesR
      rw [ft]
      unfold wts
      rw [List.map_take]
theorem placeN_eq {n : Nat} {ms : List Mv} {es : List Nat} : ∀ (k l i : Nat) {m r : Nat}, placeN (cnt0 n ms es) k l i = some (m, r) → shN n ms es l + i = shN n ms es m + r
  | 0, _, _, _, _, h => nomatch h
  | k + 1, l, i, m, r, h => by
    unfold placeN at h
    split at h
    · injection h with h
      injection h with h1 h2
      subst h1 h2
      rfl
    · have := placeN_eq k (l + 1) _ h
      rw [shN_succ] at this
      omega
theorem placeN_none {n : Nat} {ms : List Mv} {es : List Nat} : ∀ (k l i : Nat), placeN (cnt0 n ms es) k l i = none ↔ shN n ms es (l + k) ≤ shN n ms es l + i
  | 0, l, i => by
    unfold placeN
    simp
  | k + 1, l, i => by
    unfold placeN
    have mono := shN_mono (n := n) (ms := ms) (es := es) (show l + 1 ≤ l + (k + 1) by omega)
    rw [shN_succ] at mono
    split
    · constructor
      · intro h; exact nomatch h
      · intro h; omega
    · rw [placeN_none k (l + 1), shN_succ, show l + 1 + k = l + (k + 1) by omega]
      omega
theorem shN_zero (n : Nat) (ms : List Mv) (es : List Nat) : shN n ms es 0 = 0 := rfl
/-- whether there are endlessly many -/
def EndN (n : Nat) (ms : List Mv) (es : List Nat) (b : Bool) : Prop := b = true ↔ ∃ k, n ≤ k ∧ 0 < cnt0 n ms es k
theorem endN_ex (n : Nat) (ms : List Mv) (es : List Nat) : ∃ b, EndN n ms es b := by
  by_cases h : ∃ k, n ≤ k ∧ 0 < cnt0 n ms es k
  · exact ⟨true, fun _ => h, fun _ => rfl⟩
  · exact ⟨false, fun e => (nomatch e), fun e => absurd e h⟩
theorem endN_one {n : Nat} {ms : List Mv} {es : List Nat} {a b : Bool} (h : EndN n ms es a) (g : EndN n ms es b) : a = b := by
  have : a = true ↔ b = true := h.trans g.symm
  cases a <;> cases b <;> simp_all
/-- what must be told of a number -/
inductive Due where
  | no : Due
  | wd (l : List Nat) : Due
  | long : Due
def dueN (n : Nat) (ms : List Mv) (es : List Nat) (b : Bool) (i : Int) : Due :=
  if 0 ≤ i then match placeN (cnt0 n ms es) 201 0 i.toNat with
    | some (l, r) => .wd (wordN n ms es 0 l r)
    | none => if b = true then .long else .no
  else .no
section
variable {n : Nat} {ms : List Mv} {es : List Nat} {b : Bool}
/-- a number's word is one of the format, with this number -/
theorem due_wd (O : FmOk n ms es) {i : Int} {wd : List Nat} (h : dueN n ms es b i = .wd wd) : wd.length ≤ 200 ∧ hasW ms es wd = true ∧ ((ahdN n ms es wd : Nat) : Int) = i := by
  unfold dueN at h
  split at h
  · next i0 =>
    split at h
    · next l r e =>
      injection h with h
      obtain ⟨h1, h2, h3⟩ := placeN_lt _ _ _ _ e
      have z := placeN_eq _ _ _ e
      obtain ⟨w1, w2, w3⟩ := word_ok O l 0 r O.n0 h1
      rw [h] at w1 w2 w3
      refine ⟨by omega, w2, ?_⟩
      unfold ahdN
      rw [w1, w3]
      rw [shN_zero] at z
      omega
    · split at h <;> exact nomatch h
  · exact nomatch h
theorem few (O : FmOk n ms es) (E : EndN n ms es false) {a : Nat} (ha : n ≤ a) : shN n ms es a = shN n ms es n :=
  few_sum (fun k hk hc => nomatch E.mpr ⟨k, hk, hc⟩) ha
theorem due_out (O : FmOk n ms es) (n4 : n ≤ 200) (E : EndN n ms es b) {i : Int} (h : hasB n ms es b i = false) : dueN n ms es b i = .no := by
  unfold hasB at h
  unfold dueN
  split
  · next i0 =>
    rw [decide_eq_true i0, Bool.true_and, Bool.or_eq_false_iff, decide_eq_false_iff_not] at h
    obtain ⟨rfl, h⟩ := h
    have e := few O E (show n ≤ n + 1 by omega)
    have e2 := few O E (show n ≤ 0 + 201 by omega)
    have z := (placeN_none (n := n) (ms := ms) (es := es) 201 0 i.toNat).mpr (by rw [e2, ← e, shN_zero]; omega)
    rw [z]
    rfl
  · rfl
theorem due_in {i : Int} (h : hasB n ms es b i = true) {l r : Nat} (e : placeN (cnt0 n ms es) 201 0 i.toNat = some (l, r)) : dueN n ms es b i = .wd (wordN n ms es 0 l r) := by
  unfold hasB at h
  rw [Bool.and_eq_true, decide_eq_true_eq] at h
  unfold dueN
  rw [if_pos h.1, e]
theorem due_long (O : FmOk n ms es) (n4 : n ≤ 200) (E : EndN n ms es b) {i : Int} (h : hasB n ms es b i = true) (e : placeN (cnt0 n ms es) 201 0 i.toNat = none) : dueN n ms es b i = .long := by
  unfold hasB at h
  rw [Bool.and_eq_true, decide_eq_true_eq] at h
  obtain ⟨i0, h⟩ := h
  unfold dueN
  rw [if_pos i0, e]
  cases b with
  | true => rfl
  | false =>
    exfalso
    rw [Bool.false_or, decide_eq_true_eq] at h
    have z := (placeN_none _ _ _).mp e
    rw [shN_zero, few O E (show n ≤ 0 + 201 by omega), ← few O E (show n ≤ n + 1 by omega)] at z
    omega
/-- with few states the next words have at most 200 letters -/
theorem due_near (O : FmOk n ms es) (n4 : n ≤ 4) (E : EndN n ms es b) {i : Nat} (hi : i < shN n ms es 60) {j : Nat} (hj : j ≤ 30) : dueN n ms es b ((i : Int) + (j : Int)) ≠ .long := by
  intro h
  unfold dueN at h
  rw [if_pos (by omega)] at h
  split at h
  · exact nomatch h
  · next e =>
    split at h
    · next eb =>
      subst eb
      obtain ⟨k, hk, hc⟩ := E.mp rfl
      have z := (placeN_none _ _ _).mp e
      have y := long_sum O hk hc (show 2 * n ≤ 60 by omega) 30
      have x := shN_mono (n := n) (ms := ms) (es := es) (show 60 + 30 * n ≤ 0 + 201 by omega)
      rw [shN_zero] at z
      omega
    · exact nomatch h
/-- below the number of all words of so many letters there is a word -/
theorem due_ex {i : Nat} (hi : i < shN n ms es 60) : ∃ wd, dueN n ms es b (i : Int) = .wd wd := by
  unfold dueN
  rw [if_pos (by omega)]
  cases e : placeN (cnt0 n ms es) 201 0 (i : Int).toNat with
  | some p => exact ⟨_, rfl⟩
  | none =>
    have z := (placeN_none _ _ _).mp e
    have x := shN_mono (n := n) (ms := ms) (es := es) (show 60 ≤ 0 + 201 by omega)
    rw [shN_zero] at z
    omega
end
theorem has_letters {n : Nat} {ms : List Mv} {es : List Nat} (O : FmOk n ms es) {wd : List Nat} (h : hasW ms es wd = true) : lettersB wd = true := by
  unfold hasW at h
  cases e : ledW ms 0 wd with
  | none => rw [e] at h; exact nomatch h
  | some t => exact led_letters O.ok wd 0 t e
theorem not_long {wd : List Nat} (h : lettersB wd = true) : ("LONG" : Str) ≠ S wd := by
  intro e
  have e2 : (Str.ofString "LONG").cps.toList = wd := by
    have := congrArg (fun s : Str => s.cps.toList) e
    exact this
  have e3 : (Str.ofString "LONG").cps.toList = [76, 79, 78, 71] := by decide +kernel
  rw [← e2, e3] at h
  exact absurd h (by decide)
end SG

/-! The law's forms. -/
namespace SG
open PySem PySem.Spec PyProof PyProof.Rows L2
local macro_rules
  | `(tactic| clean_wf) => `(tactic| repeat (first | refine ⟨_, rfl, ?_⟩ | refine ⟨rfl, ?_⟩ | refine ⟨_, _, rfl, ?_⟩ | refine ⟨_, _, rfl, rfl, ?_⟩ | refine ⟨_, _, _, rfl, ?_⟩ | refine ⟨_, _, _, _, rfl, ?_⟩))
local macro_rules
  | `(tactic| exists $u:ident, $n:ident, $H:ident, $q:ident, $e:ident) => `(tactic| (refine ⟨by first | exact Nat.zero_le _ | assumption | (simp only [List.length_cons, List.length_nil]; decide), fun $u $n => ?_⟩; generalize hh : upd _ $u _ = $H; obtain ⟨$q, $e⟩ := mkq $n hh; clear hh))
local macro_rules
  | `(tactic| simp_wf) => `(tactic| first | assumption | exact upd_same | (refine (by assumption : Same _ _) _ _ ?_; simp_wf) | (refine (by assumption : Kept _ _ _ _) _ _ ?_ (by assumption) (by assumption); simp_wf))
local macro_rules
  | `(tactic| decreasing_trivial) => `(tactic| first | assumption | exact .inl (.inl (by assumption)) | (refine sameT (by assumption) ?_; decreasing_trivial))
local macro_rules
  | `(tactic| array_get_dec) => `(tactic| first | assumption | (refine CdAt.same (by assumption) ?_; array_get_dec))
theorem sqT_upd {K : PySem.W.Frag} {H : Hp} {p q : Addr} {xs zs : List V} {o : HO} (hp : H p = some (.lst xs)) (h : SqT K H q zs) : SqT K (upd H p o) q zs := by
  rcases h with (h | ⟨u, h⟩) | h
  · exact .inl (.inl ((upd_ne (fun z => by rw [z, hp] at h; exact nomatch h)).trans h))
  · exact .inl (.inr ⟨u, (upd_ne (fun z => by rw [z, hp] at h; exact nomatch h)).trans h⟩)
  · exact .inr h
/-- moves that are gathered -/
structure Mvg (K : PySem.W.Frag) (d l p : Addr) (H : Hp) (gs : List Nat) (n : Nat) (HI : Hp) (cc i j : Nat) (ms : List Mv) (ps : List Addr) : Prop where
  D : Dek HI d l cc
  k : Kept d l H HI
  hp : HI p = some (.lst (ps.map V.ref))
  np : H p = none
  pd : p ≠ d
  pl : p ≠ l
  len : ps.length = ms.length
  at_ : ∀ (i : Nat) (q : Addr), ps[i]? = some q → ∃ m, ms[i]? = some m ∧ MvAt K HI q m
  ok : ∀ m ∈ ms, OkM n m
  sg : ∀ m ∈ ms, m.2.1 ∈ gs
  lt : ∀ m ∈ ms, m.1 < i ∨ (m.1 = i ∧ ∃ k, k < j ∧ gs[k]? = some m.2.1)
  pw : ms.Pairwise Lat
  ml : ms.length ≤ 3 * i + j
section
variable {K : PySem.W.Frag} {d l p : Addr} {H HI H2 : Hp} {gs : List Nat} {n cc i j : Nat} {ms : List Mv} {ps : List Addr}
theorem Mvg.kept {c2 : Nat} (M : Mvg K d l p H gs n HI cc i j ms ps) (k : Kept d l HI H2) (D : Dek H2 d l c2) : Mvg K d l p H gs n H2 c2 i j ms ps := ⟨D, M.k.trans k, k _ _ M.hp M.pd M.pl, M.np, M.pd, M.pl, M.len, fun i q e => by
  obtain ⟨m, h1, h2⟩ := M.at_ i q e
  exact ⟨m, h1, k.tupG M.D h2⟩, M.ok, M.sg, M.lt, M.pw, M.ml⟩
theorem _root_.SG.Kept.free2 {d l p : Addr} {H H2 : Hp} (k : Kept d l H H2) (np : H2 p = none) (pd : p ≠ d) (pl : p ≠ l) : H p = none := by
  cases h : H p with
  | none => rfl
  | some o => rw [k p o h pd pl] at np; exact nomatch np
theorem Mvg.next (M : Mvg K d l p H gs n HI cc i j ms ps) : Mvg K d l p H gs n HI cc i (j + 1) ms ps := ⟨M.D, M.k, M.hp, M.np, M.pd, M.pl, M.len, M.at_, M.ok, M.sg, fun m hm => by
  rcases M.lt m hm with z | ⟨z, k, h1, h2⟩
  · exact .inl z
  · exact .inr ⟨z, k, by omega, h2⟩, M.pw, by have := M.ml; omega⟩
theorem Mvg.row (M : Mvg K d l p H gs n HI cc i j ms ps) (hj : j ≤ 3) : Mvg K d l p H gs n HI cc (i + 1) 0 ms ps := ⟨M.D, M.k, M.hp, M.np, M.pd, M.pl, M.len, M.at_, M.ok, M.sg, fun m hm => by
  rcases M.lt m hm with z | ⟨z, _⟩
  · exact .inl (by omega)
  · exact .inl (by omega), M.pw, by have := M.ml; omega⟩
theorem dek_same {d l : Addr} {H H2 : Hp} {c : Nat} (D : Dek H d l c) (s : Same H H2) : Dek H2 d l c := by
  obtain ⟨cs, m, n, hd, hl, r⟩ := D
  exact ⟨cs, m, n, s _ _ hd, s _ _ hl, r⟩
theorem dek_upd {d l p : Addr} {H : Hp} {c : Nat} {o : HO} (D : Dek H d l c) (pd : p ≠ d) (pl : p ≠ l) : Dek (upd H p o) d l c := by
  obtain ⟨cs, m, n, hd, hl, r⟩ := D
  exact ⟨cs, m, n, (upd_ne (Ne.symm pd)).trans hd, (upd_ne (Ne.symm pl)).trans hl, r⟩
theorem Mvg.add {T : Addr} {g r : Nat} (M : Mvg K d l p H gs n HI cc i j ms ps) (up : gs.Pairwise (· < ·)) (nT : HI T = none) (hg : gs[j]? = some g) (g1 : 97 ≤ g ∧ g ≤ 122) (hi : i < n) (hr : r < n) :
    Mvg K d l p H gs n (upd (upd HI T (.tup [.int (i : Nat), .str (sgn g), .int (r : Nat)])) p (.lst (ps.map V.ref ++ [.ref T]))) cc i (j + 1) (ms ++ [(i, g, r)]) (ps ++ [T]) := by
  have hp2 : upd HI T (.tup [.int (i : Nat), .str (sgn g), .int (r : Nat)]) p = some (.lst (ps.map V.ref)) := (upd_ne (ne_of_none M.hp nT)).trans M.hp
  have sT : Same HI (upd HI T (.tup [.int (i : Nat), .str (sgn g), .int (r : Nat)])) := same_new nT
  have gm : g ∈ gs := List.mem_of_getElem? hg
  refine ⟨dek_upd (M.D.upd nT) M.pd M.pl, ?_, by rw [upd_same, List.map_append]; rfl, M.np, M.pd, M.pl, by rw [List.length_append, List.length_append, M.len]; rfl, ?_, ?_, ?_, ?_, ?_, ?_⟩
  · intro b o hb h1 h2
    rw [upd_ne (ne_of_none hb M.np)]
    exact sT _ _ (M.k b o hb h1 h2)
  · intro k q e
    by_cases hk : k < ps.length
    · rw [List.getElem?_append_left hk] at e
      obtain ⟨m, h1, h2⟩ := M.at_ k q e
      exact ⟨m, by rw [List.getElem?_append_left (by rw [← M.len]; exact hk)]; exact h1, sqT_upd hp2 (sameT sT h2)⟩
    · have h2 := (List.getElem?_eq_some_iff.mp e).1
      rw [List.length_append, List.length_singleton] at h2
      have e1 : k = ps.length := by omega
      subst e1
      rw [List.getElem?_concat_length] at e
      obtain rfl := Option.some.inj e
      exact ⟨_, by rw [M.len, List.getElem?_concat_length], sqT_upd hp2 (.inl (.inl upd_same))⟩
  · intro m hm
    rcases List.mem_append.mp hm with z | z
    · exact M.ok m z
    · rw [List.mem_singleton.mp z]
      exact ⟨hi, g1, hr⟩
  · intro m hm
    rcases List.mem_append.mp hm with z | z
    · exact M.sg m z
    · rw [List.mem_singleton.mp z]
      exact gm
  · intro m hm
    rcases List.mem_append.mp hm with z | z
    · rcases M.lt m z with y | ⟨y, k, h1, h2⟩
      · exact .inl y
      · exact .inr ⟨y, k, by omega, h2⟩
    · rw [List.mem_singleton.mp z]
      exact .inr ⟨rfl, j, by omega, hg⟩
  · refine List.pairwise_append.mpr ⟨M.pw, List.pairwise_singleton _ _, fun x hx y hy => ?_⟩
    rw [List.mem_singleton.mp hy]
    rcases M.lt x hx with z | ⟨z, k, h1, h2⟩
    · exact .inl z
    · obtain ⟨hj2, ej⟩ := List.getElem?_eq_some_iff.mp hg
      obtain ⟨hk2, ek⟩ := List.getElem?_eq_some_iff.mp h2
      have w := List.pairwise_iff_getElem.mp up k j hk2 hj2 h1
      rw [ej, ek] at w
      exact .inr ⟨z, w⟩
  · rw [List.length_append, List.length_singleton]
    have := M.ml
    omega
end
/-- the letters a law's form has -/
def sgSets : List (List Nat) := [[97, 98], [97], [97, 98, 99], [120, 122]]
abbrev kwS : Key := Sum.inr ("size" : Str)
abbrev kwL : Key := Sum.inr ("letters" : Str)
abbrev kwM : Key := Sum.inr ("moves" : Str)
abbrev kwE : Key := Sum.inr ("ends" : Str)
def wO (n : Nat) (gs : List Nat) (am ae : Addr) : List (Key × V) := [(kwS, .int n), (kwL, .str ⟨gs.toArray⟩), (kwM, .ref am), (kwE, .ref ae)]
theorem k_sl : ¬ kwS = kwL := by decide +kernel
theorem k_sm : ¬ kwS = kwM := by decide +kernel
theorem k_se : ¬ kwS = kwE := by decide +kernel
theorem k_lm : ¬ kwL = kwM := by decide +kernel
theorem k_le : ¬ kwL = kwE := by decide +kernel
theorem k_me : ¬ kwM = kwE := by decide +kernel
theorem w_made (n : Nat) (gs : List Nat) (am ae : Addr) : mergeK [] (wO n gs am ae) = wO n gs am ae := by
  have e1 : putK ([] : List (Key × V)) kwS (.int n) = [(kwS, .int n)] := rfl
  have e2 : putK [(kwS, V.int n)] kwL (.str ⟨gs.toArray⟩) = [(kwS, .int n), (kwL, .str ⟨gs.toArray⟩)] := by
    show (if (decide (kwS = kwL) || false) = true then _ else [(kwS, V.int n)] ++ [(kwL, V.str ⟨gs.toArray⟩)]) = _
    rw [decide_eq_false k_sl]
    rfl
  have e3 : putK [(kwS, V.int n), (kwL, .str ⟨gs.toArray⟩)] kwM (.ref am) = [(kwS, .int n), (kwL, .str ⟨gs.toArray⟩), (kwM, .ref am)] := by
    show (if (decide (kwS = kwM) || (decide (kwL = kwM) || false)) = true then _ else [(kwS, V.int n), (kwL, V.str ⟨gs.toArray⟩)] ++ [(kwM, V.ref am)]) = _
    rw [decide_eq_false k_sm, decide_eq_false k_lm]
    rfl
  have e4 : putK [(kwS, V.int n), (kwL, .str ⟨gs.toArray⟩), (kwM, .ref am)] kwE (.ref ae) = wO n gs am ae := by
    show (if (decide (kwS = kwE) || (decide (kwL = kwE) || (decide (kwM = kwE) || false))) = true then _ else [(kwS, V.int n), (kwL, V.str ⟨gs.toArray⟩), (kwM, V.ref am)] ++ [(kwE, V.ref ae)]) = _
    rw [decide_eq_false k_se, decide_eq_false k_le, decide_eq_false k_me]
    rfl
  show putK (putK (putK (putK [] kwS (.int n)) kwL (.str ⟨gs.toArray⟩)) kwM (.ref am)) kwE (.ref ae) = _
  rw [e1, e2, e3, e4]
section
variable {H : Hp} {r am ae : Addr} {n : Nat} {gs : List Nat}
theorem gSize (h : H r = some (.dK (wO n gs am ae))) : DGet H r (.str "size") (some (.int n)) := by
  have z := DGet.k (k := kwS) h
  rw [show valV (wO n gs am ae) kwS = some (.int n) from valV_pos rfl] at z
  exact z
theorem gLetters (h : H r = some (.dK (wO n gs am ae))) : DGet H r (.str "letters") (some (.str ⟨gs.toArray⟩)) := by
  have z := DGet.k (k := kwL) h
  rw [show valV (wO n gs am ae) kwL = some (.str ⟨gs.toArray⟩) from (valV_neg k_sl).trans (valV_pos rfl)] at z
  exact z
theorem gMoves (h : H r = some (.dK (wO n gs am ae))) : DGet H r (.str "moves") (some (.ref am)) := by
  have z := DGet.k (k := kwM) h
  rw [show valV (wO n gs am ae) kwM = some (.ref am) from (valV_neg k_sm).trans ((valV_neg k_lm).trans (valV_pos rfl))] at z
  exact z
theorem gEnds (h : H r = some (.dK (wO n gs am ae))) : DGet H r (.str "ends") (some (.ref ae)) := by
  have z := DGet.k (k := kwE) h
  rw [show valV (wO n gs am ae) kwE = some (.ref ae) from (valV_neg k_se).trans ((valV_neg k_le).trans ((valV_neg k_me).trans (valV_pos rfl)))] at z
  exact z
end
/-- a law's form stands at r -/
def WAt (K : PySem.W.Frag) (H : Hp) (r : Addr) (n : Nat) (ms : List Mv) (es : List Nat) : Prop := FmOk n ms es ∧ n ≤ 4 ∧ ms.length ≤ 12 ∧ ∃ (am ae : Addr) (gs : List Nat), H r = some (.dK (wO n gs am ae)) ∧ MvsAt K H am ms ∧ SqT K H ae (natsV es) ∧ gs ∈ sgSets
theorem WAt.same {K : PySem.W.Frag} {H H2 : Hp} {r : Addr} {n : Nat} {ms : List Mv} {es : List Nat} (s : Same H H2) (h : WAt K H r n ms es) : WAt K H2 r n ms es := by
  obtain ⟨O, n4, ml, am, ae, gs, h1, h2, h3, h4⟩ := h
  exact ⟨O, n4, ml, am, ae, gs, s _ _ h1, h2.same s, sameT s h3, h4⟩
theorem WAt.kept {K : PySem.W.Frag} {d l : Addr} {c : Nat} {H H2 : Hp} {r : Addr} {n : Nat} {ms : List Mv} {es : List Nat} (k : Kept d l H H2) (D : Dek H d l c) (rd : r ≠ d) (h : WAt K H r n ms es) : WAt K H2 r n ms es := by
  obtain ⟨O, n4, ml, am, ae, gs, h1, ⟨ps, g1, g2, g3⟩, h3, h4⟩ := h
  have rl : r ≠ l := by
    obtain ⟨_, _, _, _, hl, _⟩ := D
    exact ne_of h1 hl nofun
  refine ⟨O, n4, ml, am, ae, gs, k _ _ h1 rd rl, ⟨ps, k.tupG D g1, g2, fun i p e => ?_⟩, k.tupG D h3, h4⟩
  obtain ⟨m, e1, e2⟩ := g3 i p e
  exact ⟨m, e1, k.tupG D e2⟩
section
variable {P : Program} {w : World} {K : PySem.W.Frag} {mg : Str → Option Value} {base : Heap} {Z : Ads}
def spLForm (K : PySem.W.Frag) : Sp := fun vs H Q _ => ∃ (d l : Addr) (c : Nat), vs = [.ref d] ∧ Dek H d l c ∧ c < 900000 ∧
  ∀ (r : Addr) (n : Nat) (ms : List Mv) (es : List Nat) (c2 : Nat) (H2 : Hp), c2 ≤ c + 60 → Dek H2 d l c2 → r ≠ d → WAt K H2 r n ms es → Q (.ref r) H2
theorem ok_form {f f1 f2 : Addr} {fd fd1 fd2 : FuncData} (F : Fun K "_law_form" "_law_form" s__law_form f fd) (F__law_draw : Fun K "_law_draw" "_law_draw" s__law_draw f1 fd1) (m__law_draw : mg "_law_draw" = some (.ref f1)) (b__law_draw : Binds K fd1 ["_law_deck_here", "_law_many"] [])
    (F__law_pick : Fun K "_law_pick" "_law_pick" s__law_pick f2 fd2) (m__law_pick : mg "_law_pick" = some (.ref f2)) (b__law_pick : Binds K fd2 ["_law_deck_here", "_law_some"] []) (T : Txt mg) : GFn P w K mg base CX0 3 f fd ["_law_deck_here"] (spLForm K) := by
  have G__law_draw : GFn P w K mg base CX0 1 f1 fd1 ["_law_deck_here", "_law_many"] spDraw := ok_draw F__law_draw T
  have G__law_pick : GFn P w K mg base CX0 2 f2 fd2 ["_law_deck_here", "_law_some"] (spPick K) := ok_pick F__law_pick F__law_draw m__law_draw b__law_draw T
  refine gfun_ok F sc__law_form (fun vs H Q E h => ?_) (fun cdv A outer s H vs Q E hgu hr h => ?_)
  · obtain ⟨d, l, c, rfl, _⟩ := h
    rfl
  · obtain ⟨d, l, c, rfl, Dk, hc, q⟩ := h
    have nd := sc__law_form.nd
    refine ⟨_, (pss_cons (ps_par3 (i := 1) (j := 2) (l := 3) rfl nd rfl rfl rfl (by decide) (by decide) (by decide) rfl rfl rfl (pa_cons (pe_g G__law_pick hgu (hr.mono (by decide)) (by rfl) m__law_pick F__law_pick.kp b__law_pick .nil pass0 (pa_cons (pv 0) (pa_cons (pe_lst (pa_cons pe_str (pa_cons pe_str (pa_cons pe_str (pa_cons pe_str (pa_cons pe_str pa_nil)))))) pa_nil))) (pa_cons (pe_op op_add pe_int (pe_g G__law_draw hgu (hr.mono (by decide)) (by rfl) m__law_draw F__law_draw.kp b__law_draw .nil pass0 (pa_cons (pv 0) (pa_cons pe_int pa_nil)))) (pa_cons (pe_lst pa_nil) pa_nil))) (by rfl))
      (pss_cons (ps_for PassesOwn.never rfl (pi_range1 rfl T.range (pa_cons (pv 2) pa_nil)) (pg_name (i := 4) nd rfl (Or.inl rfl))
        (pss_one (ps_for PassesOwn.never rfl (pi_str (pv 1)) (pg_name (i := 5) nd rfl (Or.inl rfl))
        (pss_one (ps_if (pt_cmpR op_gt (pe_g G__law_draw hgu (hr.mono (by decide)) (by rfl) m__law_draw F__law_draw.kp b__law_draw .nil pass0 (pa_cons (pv 0) (pa_cons pe_int pa_nil))) pe_int (nomark _)) (pss_one (ps_expr (pe_bm PySem.F.plainAttrs_list PySem.F.slot_list_append PySem.F.type_list_append mt_append (pv 3) (pa_cons (pe_tup (pa_cons (pv 4) (pa_cons (pv 5) (pa_cons (pe_g G__law_draw hgu (hr.mono (by decide)) (by rfl) m__law_draw F__law_draw.kp b__law_draw .nil pass0 (pa_cons (pv 0) (pa_cons (pv 2) pa_nil))) pa_nil)))) pa_nil)))) pss_nil)))))
      (pss_cons (ps_set (i := 6) nd rfl (Or.inl rfl) (pe_callTy (k_tupOf (K := K)) (by rfl) T.tuple (by decide +kernel) (pa_cons (pe_lc (own := [("_law_state", 4)]) rfl nd (pi_range1 rfl T.range (pa_cons (pv 2) pa_nil)) (blkOk_by (N := N__law_form) (sc := defScope s__law_form) (by decide +kernel)) (fun _ _ _ _ _ => (pg_name (i := 4) nd rfl (Or.inl rfl))) (fun _ _ _ _ _ => (pts_one (pt_cmpR op_eq (pe_g G__law_draw hgu (hr.mono (by decide)) (by rfl) m__law_draw F__law_draw.kp b__law_draw .nil pass0 (pa_cons (pv 0) (pa_cons pe_int pa_nil))) pe_int (nomark _)))) (fun _ _ _ _ _ => (pv 4))) pa_nil)))
      (pss_one (ps_ret (pe_disp (pps_cons pe_str (pv 2) (pps_cons pe_str (pv 1) (pps_cons pe_str (pe_callTy (k_tupOf (K := K)) (by rfl) T.tuple (by decide +kernel) (pa_cons (pv 3) pa_nil)) (pps_cons pe_str (pv 6) pps_nil)))) (by rfl) (by rfl) (fun z => by cases z) (by decide))))))), ?_⟩
    clean_wf
    refine ⟨by decide, fun pk npk => ?_⟩
    refine ⟨d, l, c, Dk.upd npk, by omega, .inl ⟨pk, _, rfl, SqL.of upd_same, (Dk.ne npk).2, by simp, by decide, fun x H1 hx D1 k1 => ?_⟩⟩
    have k1' : Kept d l H H1 := (Kept.of (same_new npk)).trans k1
    clear k1
    obtain ⟨gs, hgs, rfl⟩ : ∃ gs ∈ sgSets, x = V.str ⟨gs.toArray⟩ := by
      simp only [List.mem_cons, List.not_mem_nil, or_false] at hx
      rcases hx with rfl | rfl | rfl | rfl | rfl
      · exact ⟨[97, 98], by decide, congrArg V.str (by decide +kernel)⟩
      · exact ⟨[97, 98], by decide, congrArg V.str (by decide +kernel)⟩
      · exact ⟨[97], by decide, congrArg V.str (by decide +kernel)⟩
      · exact ⟨[97, 98, 99], by decide, congrArg V.str (by decide +kernel)⟩
      · exact ⟨[120, 122], by decide, congrArg V.str (by decide +kernel)⟩
    have up : gs.Pairwise (· < ·) := by
      simp only [sgSets, List.mem_cons, List.not_mem_nil, or_false] at hgs
      rcases hgs with rfl | rfl | rfl | rfl <;> decide
    have gl : gs.length ≤ 3 := by
      simp only [sgSets, List.mem_cons, List.not_mem_nil, or_false] at hgs
      rcases hgs with rfl | rfl | rfl | rfl <;> decide
    have gb : ∀ g ∈ gs, 97 ≤ g ∧ g ≤ 122 := by
      simp only [sgSets, List.mem_cons, List.not_mem_nil, or_false] at hgs
      rcases hgs with rfl | rfl | rfl | rfl <;> decide
    clean_wf
    refine ⟨d, l, c + 1, 4, rfl, D1, by omega, by decide, by decide, fun r1 H2 r10 r11 D2 k2 => ?_⟩
    have k2' := k1'.trans k2
    obtain ⟨n, en⟩ : ∃ n : Nat, 1 + r1 = (n : Int) := ⟨(1 + r1).toNat, by omega⟩
    have n1 : 1 ≤ n := by omega
    have n4 : n ≤ 4 := by omega
    refine ⟨_, _, rfl, rfl, by decide, fun p np => ⟨_, _, _, rfl, ?_⟩⟩
    rw [show (fun i j : Int => V.int (i + j)) 1 r1 = V.int (n : Int) from congrArg V.int en]
    clear en r10 r11
    have D3 := D2.upd (o := .lst []) np
    have k3 := k2'.trans (Kept.of (same_new (o := .lst []) np))
    have hp : upd H2 p (.lst []) p = some (.lst []) := upd_same
    have pd := (D2.ne np).1
    have pl := (D2.ne np).2
    have np0 := k2'.free2 np pd pl
    generalize upd H2 p (.lst []) = H3 at D3 k3 hp ⊢
    have M0 : Mvg K d l p H gs n H3 (c + 1 + 1) 0 0 [] [] := ⟨D3, k3, hp, np0, pd, pl, rfl, (fun i q e => nomatch e), (fun m hm => nomatch hm), (fun m hm => nomatch hm), (fun m hm => nomatch hm), List.Pairwise.nil, Nat.zero_le _⟩
    clear hp
    refine ⟨_, rfl, _, rfl, by omega, by omega, ?_⟩
    rw [Int.toNat_natCast]
    refine for_it (walk_range (lo := 0) (n := n)) (fun i σ HI => ∃ (y6 y7 : Option V) (cc : Nat) (ms : List Mv) (ps : List Addr), σ = [some (.ref d), some (.str ⟨gs.toArray⟩), some (.int n), some (.ref p), y6, y7, none] ∧ Mvg K d l p H gs n HI cc i 0 ms ps ∧ cc ≤ c + 2 + 6 * i)
      ⟨none, none, _, [], [], rfl, M0, by omega⟩ (fun _ _ _ _ _ => trivial) ?_ ?_
    · rintro i x σ H5 H6 hi ⟨y6, y7, cc, ms, ps, rfl, M, hcc⟩ ⟨rfl, hx⟩
      obtain rfl : x = V.int (i : Int) := by
        rw [hx]
        show V.int (0 + (i : Int)) = _
        rw [Int.zero_add]
      refine ⟨_, rfl, _, rfl, ?_⟩
      refine for_it walk_str (fun j σ HI => ∃ (y7 : Option V) (c2 : Nat) (ms : List Mv) (ps : List Addr), σ = [some (.ref d), some (.str ⟨gs.toArray⟩), some (.int n), some (.ref p), some (.int (i : Nat)), y7, none] ∧ Mvg K d l p H gs n HI c2 i j ms ps ∧ c2 ≤ cc + 2 * j)
        ⟨_, _, ms, ps, rfl, M, by omega⟩ (fun _ _ _ _ _ => trivial) ?_ ?_
      · rintro j x σ H7 H8 hj ⟨y7, c2, ms, ps, rfl, M, hc2⟩ ⟨rfl, g, hg, rfl⟩
        have hg2 : gs[j]? = some g := by rw [← hg]; exact (List.getElem?_toArray ..).symm
        have gm := List.mem_of_getElem? hg2
        have jl : j < gs.length := (List.getElem?_eq_some_iff.mp hg2).1
        refine ⟨_, rfl, d, l, c2, 4, rfl, M.D, by omega, by decide, by decide, fun r3 H9 r30 r31 D9 k9 => ?_⟩
        have M9 := M.kept k9 D9
        refine ⟨_, _, rfl, rfl, _, rfl, ?_⟩
        by_cases le : 0 < r3
        case neg => exact ifF (decide_eq_false le) ⟨_, _, ms, ps, rfl, M9.next, by omega⟩
        refine ifT (decide_eq_true le) ?_
        refine ⟨_, rfl, .inl ⟨rfl, _, SqL.of M9.hp⟩, _, rfl, _, rfl, _, rfl, _, rfl, d, l, c2 + 1, n, rfl, M9.D, by omega, by omega, by omega, fun r4 H10 r40 r41 D10 k10 => ⟨by show 3 ≤ sizeLine; decide, fun T nT => ?_⟩⟩
        obtain ⟨r, rfl⟩ : ∃ r : Nat, r4 = (r : Int) := ⟨r4.toNat, by omega⟩
        have M10 := M9.kept k10 D10
        have M11 := M10.add up nT hg2 (gb g gm) hi (show r < n by omega)
        have l10 := M10.ml
        have p10 := M10.len
        refine ⟨p, _, _, rfl, rfl, (upd_ne (ne_of_none M10.hp nT)).trans M10.hp, Nat.lt_of_lt_of_le (show (ps.map V.ref).length < 5000 by rw [List.length_map]; omega) (by decide), _, _, _, _, rfl, M11, by omega⟩
      rintro σ H7 ⟨y7, c2, ms, ps, rfl, M, hc2⟩
      exact ⟨_, _, c2, ms, ps, rfl, M.row gl, Nat.le_trans hc2 (by show cc + 2 * gs.length ≤ _; omega)⟩
    rintro σ H5 ⟨y6, y7, cc, ms, ps, rfl, M, hcc⟩
    clean_wf
    refine ⟨by omega, by omega, fun E nE => ?_⟩
    rw [Int.toNat_natCast]
    refine lc_it (walk_range (lo := 0) (n := n)) (fun i HI => ∃ (c2 : Nat) (es : List Nat), Dek HI d l c2 ∧ c2 ≤ cc + i ∧ Kept d l H5 HI ∧ HI E = some (.lst (natsV es)) ∧ es.Pairwise (· < ·) ∧ ∀ e ∈ es, e < i)
      ⟨cc, [], M.D.upd nE, Nat.le_refl _, Kept.of (same_new nE), upd_same, List.Pairwise.nil, fun e he => nomatch he⟩ (fun _ _ _ _ => trivial) ?_ ?_
    · rintro i x H6 H7 hi ⟨c2, es, D6, hc2, k6, hE, pE, lE⟩ ⟨rfl, hx⟩
      obtain rfl : x = V.int (i : Int) := by
        rw [hx]
        show V.int (0 + (i : Int)) = _
        rw [Int.zero_add]
      obtain ⟨Ed, El⟩ := M.D.ne nE
      have el : es.length ≤ n := Nat.le_trans (nodup_len (n := i) (pE.imp Nat.ne_of_lt) lE) (Nat.le_of_lt hi)
      refine ⟨wipe1 _ _ _, ?_⟩
      refine ⟨_, rfl, d, l, c2, 2, rfl, D6, by omega, by decide, by decide, fun r3 H9 r30 r31 D9 k9 => ?_⟩
      have hE9 := k9 _ _ hE Ed El
      have k69 := k6.trans k9
      refine ⟨rfl, _, rfl, ?_⟩
      by_cases z : V.int r3 = V.int 0
      case neg => exact ifF (decide_eq_false z) ⟨c2 + 1, es, D9, by omega, k69, hE9, pE, fun e he => Nat.lt_succ_of_lt (lE e he)⟩
      refine ifT (decide_eq_true z) ⟨_, rfl, _, hE9, Nat.lt_of_lt_of_le (show (natsV es).length < 5000 by rw [natsV_len]; omega) (by decide), c2 + 1, es ++ [i], dek_upd D9 Ed El, by omega, ?_, by rw [upd_same, natsV_app], ?_, ?_⟩
      · intro b o hb h1 h2
        rw [upd_ne (ne_of_none hb nE)]
        exact k69 b o hb h1 h2
      · refine List.pairwise_append.mpr ⟨pE, List.pairwise_singleton _ _, fun x hx y hy => ?_⟩
        rw [List.mem_singleton.mp hy]
        exact lE x hx
      · intro e he
        rcases List.mem_append.mp he with y | y
        · exact Nat.lt_succ_of_lt (lE e y)
        · rw [List.mem_singleton.mp y]
          exact Nat.lt_succ_self _
    rintro H6 ⟨c2, es, D6, hc2, k6, hE, pE, lE⟩
    have M6 := M.kept k6 D6
    refine ⟨E, _, rfl, .inl ⟨SqL.of hE, fun te nte => ?_⟩⟩
    have s7 : Same H6 (upd H6 te (.tup (natsV es))) := same_new nte
    have h7 : upd H6 te (.tup (natsV es)) te = some (.tup (natsV es)) := upd_same
    generalize upd H6 te (.tup (natsV es)) = H7 at s7 h7 ⊢
    refine fun r nr => ?_
    have s8 := s7.trans (same_new (o := .dK []) nr)
    have hr8 : upd H7 r (.dK []) r = some (.dK []) := upd_same
    have h8 := (same_new (o := .dK []) nr) _ _ h7
    have rn6 : H6 r = none := s7.free nr
    have rd := (M6.D.ne rn6).1
    generalize upd H7 r (.dK []) = H8 at s8 hr8 h8 ⊢
    clean_wf
    refine ⟨p, _, rfl, .inl ⟨SqL.of (s8 _ _ M6.hp), fun ta nta => ?_⟩⟩
    have s9 := s8.trans (same_new (o := .tup (ps.map V.ref)) nta)
    have hr9 := (same_new (o := .tup (ps.map V.ref)) nta) _ _ hr8
    have h9 := (same_new (o := .tup (ps.map V.ref)) nta) _ _ h8
    have ha9 : upd H8 ta (.tup (ps.map V.ref)) ta = some (.tup (ps.map V.ref)) := upd_same
    generalize upd H8 ta (.tup (ps.map V.ref)) = H9 at s9 hr9 h9 ha9 ⊢
    clean_wf
    refine ⟨hr9, wO n gs ta te, rfl, by show 4 ≤ 15; decide, ?_⟩
    rw [w_made]
    have l6 := M6.ml
    have el : es.length ≤ n := nodup_len (pE.imp Nat.ne_of_lt) lE
    have sr : Same H6 (upd H9 r (.dK (wO n gs ta te))) := fun b o hb => by
      rw [upd_ne (ne_of_none hb rn6)]
      exact s9 _ _ hb
    refine q r n ms es c2 _ (by omega) (M6.D.same sr) rd ⟨⟨n1, M6.ok, ?_, lE, pE, by omega, by omega, by omega⟩, n4, by omega, ta, te, gs, upd_same, ⟨ps, .inl (.inl ((upd_ne (ne_of ha9 hr9 nofun)).trans ha9)), M6.len, fun i q e => ?_⟩, .inl (.inl ((upd_ne (ne_of h9 hr9 nofun)).trans h9)), hgs⟩
    · intro i x y hx hy
      obtain ⟨hi, ex⟩ := List.getElem?_eq_some_iff.mp hx
      obtain ⟨hj, ey⟩ := List.getElem?_eq_some_iff.mp hy
      have z := List.pairwise_iff_getElem.mp M6.pw i (i + 1) hi hj (by omega)
      rw [ex, ey] at z
      exact z
    · obtain ⟨m, z1, z2⟩ := M6.at_ i q e
      exact ⟨m, z1, sameT sr z2⟩
def spCode (K : PySem.W.Frag) (C : Addr) : Sp := fun vs H Q _ => ∃ (r : Addr) (n : Nat) (ms : List Mv) (es : List Nat), vs = [.ref r] ∧ WAt K H r n ms es ∧ ∀ (p : Addr) (H2 : Hp), Same H H2 → FmAt K C H2 p n ms es → Q (.ref p) H2
theorem ok_code {f : Addr} {fd fd0 : FuncData} (F : Fun K "_law_code" "_law_code" s__law_code f fd) (U : Own K mg Z) (F_Format___init__ : Fun K "__init__" "Format.__init__" s_Format___init__ Z.fF fd0) (b_Format___init__ : Binds K fd0 ["self", "size", "moves", "ends"] [])
    (G_Format___init__ : FnOk P w K mg base CX0 8 Z.fF fd0 ["self", "size", "moves", "ends"] (spForm K Z.cF)) (T : Txt mg) : GFn P w K mg base CX0 10 f fd ["_law_w"] (spCode K Z.cF) := by
  refine gfun_ok F sc__law_code (fun vs H Q E h => ?_) (fun cdv A outer s H vs Q E hgu hr h => ?_)
  · obtain ⟨r, n, ms, es, rfl, _⟩ := h
    rfl
  · obtain ⟨r, n, ms, es, rfl, ⟨O, n4, ml, am, ae, gs, h1, h2, h3, h4⟩, q⟩ := h
    have nd := sc__law_code.nd
    refine ⟨_, (pss_one (ps_ret (pe_make (E := E0) U.mkFormat G_Format___init__ (hr.mono (by decide)) (by rfl) U.mFormat b_Format___init__ .nil pass0 (pa_cons (pe_dget (hu_of hr) (pv 0) pe_str (fun _ _ => rfl)) (pa_cons (pe_dget (hu_of hr) (pv 0) pe_str (fun _ _ => rfl)) (pa_cons (pe_dget (hu_of hr) (pv 0) pe_str (fun _ _ => rfl)) pa_nil)))))), ?_⟩
    refine ⟨_, rfl, r, _, rfl, gSize h1, _, rfl, r, _, rfl, gMoves h1, _, rfl, r, _, rfl, gEnds h1, ?_⟩
    refine fun y dx ny ndx hne => ?_
    have sy : Same H (upd (upd H dx (.own y)) y (.ins Z.cF dx [])) := (same_new ndx).trans (same_new ((upd_ne (Ne.symm hne)).trans ny))
    exact ⟨y, dx, am, ae, n, ms, es, rfl, upd_same, h2.same sy, sameT sy h3, O, fun H2 k2 hF => ⟨rfl, q y H2 (fun b o hb => k2 _ _ (sy _ _ hb) (ne_of_none hb ny)) hF⟩⟩
end
end SG

/-! The law's far numbers and its table. -/
namespace SG
open PySem PySem.Spec PyProof PyProof.Rows L2
local macro_rules
  | `(tactic| clean_wf) => `(tactic| repeat (first | refine ⟨_, rfl, ?_⟩ | refine ⟨rfl, ?_⟩ | refine ⟨_, _, rfl, ?_⟩ | refine ⟨_, _, rfl, rfl, ?_⟩ | refine ⟨_, _, _, rfl, ?_⟩ | refine ⟨_, _, _, _, rfl, ?_⟩))
local macro_rules
  | `(tactic| exists $u:ident, $n:ident, $H:ident, $q:ident, $e:ident) => `(tactic| (refine ⟨by first | exact Nat.zero_le _ | assumption | (simp only [List.length_cons, List.length_nil]; decide), fun $u $n => ?_⟩; generalize hh : upd _ $u _ = $H; obtain ⟨$q, $e⟩ := mkq $n hh; clear hh))
local macro_rules
  | `(tactic| simp_wf) => `(tactic| first | assumption | exact upd_same | (refine (by assumption : Same _ _) _ _ ?_; simp_wf) | (refine (by assumption : Kept _ _ _ _) _ _ ?_ (by assumption) (by assumption); simp_wf))
local macro_rules
  | `(tactic| decreasing_trivial) => `(tactic| first | assumption | exact .inl (.inl (by assumption)) | (refine sameT (by assumption) ?_; decreasing_trivial))
local macro_rules
  | `(tactic| array_get_dec) => `(tactic| first | assumption | (refine CdAt.same (by assumption) ?_; array_get_dec))
theorem in_nats (x : Nat) (l : List Nat) : inV (V.int x) (natsV l) = decide (x ∈ l) := by
  unfold inV natsV
  induction l with
  | nil => rfl
  | cons a l ih =>
    rw [List.map_cons, List.any_cons, ih]
    show (((a : Int) == (x : Int)) || _) = _
    by_cases h : a = x
    · subst h; simp
    · have : ((a : Int) == (x : Int)) = false := by
        rw [beq_eq_false_iff_ne]
        omega
      rw [this, Bool.false_or]
      exact decide_eq_decide.mpr (by simp [Ne.symm h])
theorem cut_take (xs : List V) (n : Nat) : cutV xs none (some (n : Int)) = xs.take n := by
  unfold cutV
  rw [HT.sIx_none, HT.sIx_nat, List.drop_zero]
  rcases Nat.le_total n xs.length with h | h
  · rw [Nat.min_eq_left h]
    rfl
  · rw [Nat.min_eq_right h, List.take_of_length_le h]
    exact List.take_of_length_le (Nat.le_refl _)
theorem flat_nats (l : List Nat) : (natsV l).all flatV = true := by
  rw [List.all_eq_true]
  intro x hx
  obtain ⟨n, _, rfl⟩ := List.mem_map.mp hx
  rfl
theorem rep0 : ∀ n : Nat, (List.replicate n [V.int 0]).flatten = natsV (List.replicate n 0)
  | 0 => rfl
  | k + 1 => by
    rw [List.replicate_succ, List.replicate_succ, List.flatten_cons, rep0 k]
    rfl
theorem refs_ne {qs : List Addr} {l : List Nat} (h : qs.map V.ref = natsV l) : qs = [] := by
  cases qs with
  | nil => rfl
  | cons a qs =>
    cases l with
    | nil => exact nomatch h
    | cons x l => exact nomatch (List.cons.inj h).1
theorem ixN_ok {n j : Nat} (hj : j < n) : ixN n (j : Int) = some j := by
  unfold ixN
  rw [if_pos (by omega), if_pos (by omega)]
  simp
theorem at_end {l : List V} {v : V} (h : l[l.length - 1]? = some v) (h0 : 0 < l.length) : atI l (-1) = some v := by
  unfold atI ixN
  rw [if_neg (by omega), if_pos (by omega)]
  show l[((-1 : Int) + (l.length : Nat)).toNat]? = _
  rw [show ((-1 : Int) + (l.length : Nat)).toNat = l.length - 1 by omega]
  exact h
/-- one length more, move by move -/
def addUp (now : List Nat) (ms : List Mv) (r : List Nat) : List Nat := ms.foldl (fun r m => r.set m.1 (r.getD m.1 0 + now.getD m.2.2 0)) r
theorem addUp_len (now : List Nat) : ∀ (ms : List Mv) (r : List Nat), (addUp now ms r).length = r.length
  | [], _ => rfl
  | m :: ms, r => (addUp_len now ms _).trans (List.length_set ..)
theorem addUp_get (now : List Nat) (n s : Nat) : ∀ (ms : List Mv) (r : List Nat), r.length = n → (∀ m ∈ ms, m.1 < n) → s < n → (addUp now ms r).getD s 0 = r.getD s 0 + (((ms.filter fun m => decide (m.1 = s)).map (·.2.2)).map fun g => now.getD g 0).sum
  | [], r, _, _, _ => by simp [addUp]
  | m :: ms, r, hr, ok, hs => by
    have o := ok m List.mem_cons_self
    show (addUp now ms (r.set m.1 (r.getD m.1 0 + now.getD m.2.2 0))).getD s 0 = _
    rw [addUp_get now n s ms _ (by rw [List.length_set, hr]) (fun x hx => ok x (List.mem_cons_of_mem _ hx)) hs]
    by_cases z : m.1 = s
    · subst z
      rw [List.filter_cons_of_pos (by simp), List.getD_eq_getElem?_getD (l := r.set _ _), List.getElem?_set_self (by omega)]
      simp [Nat.add_assoc]
    · rw [List.filter_cons_of_neg (by simp [z]), List.getD_eq_getElem?_getD (l := r.set _ _), List.getElem?_set_ne z, ← List.getD_eq_getElem?_getD]
theorem addUp_lng {n : Nat} {ms : List Mv} (ok : ∀ m ∈ ms, m.1 < n) (now : List Nat) : addUp now ms (List.replicate n 0) = lng (rowsOf n ms) now := by
  have l1 : (addUp now ms (List.replicate n 0)).length = n := (addUp_len ..).trans (List.length_replicate ..)
  have l2 : (lng (rowsOf n ms) now).length = n := by unfold lng; rw [List.length_map, rowsOf_len]
  refine List.ext_getElem (l1.trans l2.symm) fun i h1 h2 => ?_
  have hi : i < n := by omega
  have z := addUp_get now n i ms (List.replicate n 0) (List.length_replicate ..) ok hi
  rw [List.getD_eq_getElem?_getD, List.getElem?_eq_getElem h1, Option.getD_some, List.getD_eq_getElem?_getD, List.getElem?_replicate, if_pos hi, Option.getD_some, Nat.zero_add] at z
  rw [z]
  have y := rowsOf_get ok hi
  rw [List.getD_eq_getElem?_getD, List.getElem?_eq_getElem (by rw [rowsOf_len]; exact hi), Option.getD_some] at y
  have e : (lng (rowsOf n ms) now)[i] = (((rowsOf n ms)[i]'(by rw [rowsOf_len]; exact hi)).map fun g => now.getD g 0).sum := List.getElem_map ..
  rw [e, y]
section
variable {P : Program} {w : World} {K : PySem.W.Frag} {mg : Str → Option Value} {base : Heap}
def spFar : Sp := fun vs H Q _ => ∃ (d l : Addr) (c : Nat) (k : Int), vs = [.ref d, .int k] ∧ 0 < k ∧ k ≤ 10 ^ 59 ∧ Dek H d l c ∧ c < 900000 ∧ ∀ (r : Int) (H2 : Hp), 0 ≤ r → r < k → Dek H2 d l (c + 11) → Kept d l H H2 → Q (.int r) H2
theorem ok_far {f f1 : Addr} {fd fd1 : FuncData} (F : Fun K "_law_far" "_law_far" s__law_far f fd) (F__law_draw : Fun K "_law_draw" "_law_draw" s__law_draw f1 fd1) (m__law_draw : mg "_law_draw" = some (.ref f1)) (b__law_draw : Binds K fd1 ["_law_deck_here", "_law_many"] []) (T : Txt mg) : GFn P w K mg base CX0 2 f fd ["_law_deck_here", "_law_many"] spFar := by
  have G__law_draw : GFn P w K mg base CX0 1 f1 fd1 ["_law_deck_here", "_law_many"] spDraw := ok_draw F__law_draw T
  refine gfun_ok F sc__law_far (fun vs H Q E h => ?_) (fun cdv A outer s H vs Q E hgu hr h => ?_)
  · obtain ⟨d, l, c, k, rfl, _⟩ := h
    rfl
  · obtain ⟨d, l, c, k, rfl, k0, k1, D, hc, q⟩ := h
    have nd := sc__law_far.nd
    refine ⟨_, (pss_cons (ps_set (i := 2) nd rfl (Or.inl rfl) pe_int)
      (pss_cons (ps_for PassesOwn.never rfl (pi_range1 rfl T.range (pa_cons (pe_op op_add (pe_op op_fdiv (pe_callB call_len_str (by rfl) T.len (by decide +kernel) (pa_cons (pe_callTy call_str_int (by rfl) T.str (by decide +kernel) (pa_cons (pv 1) pa_nil)) pa_nil)) pe_int) pe_int) pa_nil)) (pg_name (i := 3) nd rfl (Or.inl rfl))
        (pss_one (ps_set (i := 2) nd rfl (Or.inl rfl) (pe_op op_add (pe_op op_mul (pv 2) (pe_op op_pow pe_int pe_int)) (pe_g G__law_draw hgu (hr.mono (by decide)) (by rfl) m__law_draw F__law_draw.kp b__law_draw .nil pass0 (pa_cons (pv 0) (pa_cons (pe_op op_pow pe_int pe_int) pa_nil)))))))
      (pss_one (ps_ret (pe_op op_mod (pv 2) (pv 1)))))), ?_⟩
    have len : (Str.ofString (toString k)).length ≤ 60 := toString_length_le (Int.le_of_lt k0) (by decide) (by omega)
    clean_wf
    refine ⟨(Nat.log2_lt (by omega)).mpr (Nat.lt_of_le_of_lt (show k.natAbs ≤ 10 ^ 59 by omega) (by decide +kernel)), ?_⟩
    refine ⟨Str.ofString (toString k), rfl, Nat.le_trans len (by decide), ?_⟩
    generalize (Str.ofString (toString k)).length = L at len ⊢
    refine ⟨_, _, rfl, rfl, ⟨by decide, by decide⟩, _, _, rfl, rfl, ?_⟩
    obtain ⟨m, em, hm⟩ : ∃ m : Nat, ((L : Int) / 6 + 1 : Int) = (m : Int) ∧ m ≤ 11 := ⟨L / 6 + 1, by omega, by omega⟩
    refine ⟨m, congrArg (fun z => [V.int z]) em, by omega, by omega, ?_⟩
    rw [Int.toNat_natCast]
    refine for_it (walk_range (lo := 0) (n := m)) (fun i σ HI => ∃ (n : Nat) (y3 : Option V), σ = [some (.ref d), some (.int k), some (.int n), y3] ∧ Dek HI d l (c + i) ∧ Kept d l H HI) ⟨0, _, rfl, D, Kept.refl _ _ _⟩ (fun _ _ _ _ _ => trivial) ?_ ?_
    · rintro i x σ HI HJ hi ⟨n, y3, rfl, dk, kk⟩ ⟨rfl, rfl⟩
      clean_wf
      refine ⟨⟨by decide, by decide, by decide⟩, ?_⟩
      clean_wf
      refine ⟨.inr ⟨by decide, by decide⟩, ?_⟩
      clean_wf
      refine ⟨⟨by decide, by decide, by decide⟩, ?_⟩
      refine ⟨d, l, c + i, 1000000, rfl, dk, by omega, by decide, by decide, fun r H2 r0 r1 D2 k2 => ?_⟩
      refine ⟨_, _, rfl, rfl, n * 1000000 + r.toNat, some (.int (0 + (i : Nat))), ?_, D2, kk.trans k2⟩
      have e : (n : Int) * 10 ^ (6 : Int).toNat + r = ((n * 1000000 + r.toNat : Nat) : Int) := by
        rw [show (10 : Int) ^ (6 : Int).toNat = 1000000 by decide]
        omega
      show List.set _ 2 (some (V.int ((n : Int) * 10 ^ (6 : Int).toNat + r))) = _
      rw [e]
      rfl
    · rintro σ HI ⟨n, y3, rfl, dk, kk⟩
      clean_wf
      refine ⟨k0, ?_⟩
      exact q _ _ (Int.emod_nonneg _ (by omega)) (Int.emod_lt_of_pos _ k0) (dk.mono (by omega)) kk
end
section
variable {P : Program} {w : World} {K : PySem.W.Frag} {mg : Str → Option Value} {base : Heap} {Z : Ads}
/-- .. all of them new -/
def RowsN (H0 H : Hp) (p : Addr) (rows : List (List Nat)) : Prop := ∃ qs : List Addr, H p = some (.lst (qs.map V.ref)) ∧ qs.length = rows.length ∧ (∀ (i : Nat) (q : Addr), qs[i]? = some q → H q = some (.lst (natsV (rows.getD i [])))) ∧ ∀ q ∈ qs, H0 q = none
def spTab (K : PySem.W.Frag) : Sp := fun vs H Q _ => ∃ (r : Addr) (n : Nat) (ms : List Mv) (es : List Nat) (many : Nat), vs = [.ref r, .int many] ∧ WAt K H r n ms es ∧ many ≤ 900 ∧ ∀ (p : Addr) (H2 : Hp), Same H H2 → H p = none → RowsN H H2 p ((List.range (many + 1)).map (cAt n ms es)) → Q (.ref p) H2
theorem ok_table {f : Addr} {fd : FuncData} (F : Fun K "_law_table" "_law_table" s__law_table f fd) (T : Txt mg) : GFn P w K mg base CX0 1 f fd ["_law_w", "_law_many"] (spTab K) := by
  refine gfun_ok F sc__law_table (fun vs H Q E h => ?_) (fun cdv A outer s H vs Q E hgu hr h => ?_)
  · obtain ⟨r, n, ms, es, many, rfl, _⟩ := h
    rfl
  · obtain ⟨r, n, ms, es, many, rfl, ⟨O, n4, ml, am, ae, gs, h1, h2, h3, h4⟩, m2, q⟩ := h
    have nd := sc__law_table.nd
    refine ⟨_, (pss_cons (ps_set (i := 2) nd rfl (Or.inl rfl) (pe_lst (pa_cons (pe_lc (own := [("_law_state", 5)]) rfl nd (pi_range1 rfl T.range (pa_cons (pe_dget (hu_of hr) (pv 0) pe_str (fun _ _ => rfl)) pa_nil)) (blkOk_by (N := N__law_table) (sc := defScope s__law_table) (by decide +kernel)) (fun _ _ _ _ _ => (pg_name (i := 5) nd rfl (Or.inl rfl))) (fun _ _ _ _ _ => pts_nil) (fun _ _ _ _ _ => (pe_callTy call_int1 (by rfl) T.int (by decide +kernel) (pa_cons (pe_cmpR (k_in (K := K)) (pv 5) (pe_dget (hu_of hr) (pv 0) pe_str (fun _ _ => rfl)) (by rfl)) pa_nil)))) pa_nil)))
      (pss_cons (ps_for PassesOwn.never rfl (pi_range1 rfl T.range (pa_cons (pv 1) pa_nil)) (pg_name (i := 3) nd rfl (Or.inl rfl))
        (pss_cons (ps_set (i := 4) nd rfl (Or.inl rfl) (pe_op op_rep (pe_lst (pa_cons pe_int pa_nil)) (pe_dget (hu_of hr) (pv 0) pe_str (fun _ _ => rfl))))
      (pss_cons (ps_for PassesOwn.never rfl (pi_tup (pe_dget (hu_of hr) (pv 0) pe_str (fun _ _ => rfl))) (k_tg (K := K) (n := 3) rfl (pgs_cons (pg_name (i := 5) nd rfl (Or.inl rfl)) (pgs_cons (pg_name (i := 6) nd rfl (Or.inl rfl)) (pgs_cons (pg_name (i := 7) nd rfl (Or.inl rfl)) pgs_nil))))
        (pss_one (ps_asg (pe_op op_add (pe_ix (k_ixL (K := K)) (pv 4) (pv 5) (fun _ _ => rfl)) (pe_ix (k_ixL (K := K)) (pe_ix (k_ixL (K := K)) (pv 2) (pe_un un_neg pe_int) (fun _ _ => rfl)) (pv 7) (fun _ _ => rfl))) (pg_sub (pv 4) (pv 5) set_list))))
      (pss_one (ps_expr (pe_bm PySem.F.plainAttrs_list PySem.F.slot_list_append PySem.F.type_list_append mt_append (pv 2) (pa_cons (pv 4) pa_nil)))))))
      (pss_one (ps_ret (pv 2))))), ?_⟩
    clean_wf
    have nl := O.nl
    refine ⟨r, _, rfl, gSize h1, _, rfl, by omega, by omega, fun D nD => ?_⟩
    rw [Int.toNat_natCast]
    refine lc_valW (walk_range (lo := 0) (n := n)) (by omega) nD (fun i => V.int ((if i ∈ es then 1 else 0 : Nat) : Int)) (fun _ _ => trivial) ?_ ?_
    · rintro i x H2 H3 hi s2 ⟨rfl, hx⟩ R hR
      obtain rfl : x = V.int (i : Int) := by
        rw [hx]
        show V.int (0 + (i : Int)) = _
        rw [Int.zero_add]
      refine ⟨wipe1 _ _ _, ?_⟩
      refine ⟨_, rfl, _, rfl, r, _, rfl, gEnds (s2 _ _ h1), ae, _, rfl, .inr (sameT s2 h3), rfl, flat_nats _, .inr ⟨_, rfl, ?_⟩⟩
      rw [in_nats]
      by_cases m : i ∈ es
      · rw [if_pos m] at hR
        rw [if_pos (decide_eq_true m)]
        exact hR _ (Same.refl _)
      · rw [if_neg m] at hR
        rw [if_neg (by rw [decide_eq_false m]; exact Bool.false_ne_true)]
        exact hR _ (Same.refl _)
    intro H2 s2 hD
    refine ⟨by show 1 ≤ sizeLine; decide, fun pf npf => ?_⟩
    have hD2 : H2 D = some (.lst (natsV (cAt n ms es 0))) := hD.trans (by unfold cAt endsOf natsV; rw [List.map_map]; rfl)
    have s3 := s2.trans (same_new (o := .lst [.ref D]) npf)
    have hD3 := (same_new (o := .lst [.ref D]) npf) _ _ hD2
    have hf3 : upd H2 pf (.lst [.ref D]) pf = some (.lst [.ref D]) := upd_same
    have n0f : H pf = none := s2.free npf
    generalize upd H2 pf (.lst [.ref D]) = H3 at s3 hD3 hf3 ⊢
    clean_wf
    refine ⟨by omega, by omega, ?_⟩
    rw [Int.toNat_natCast]
    refine for_it (walk_range (lo := 0) (n := many)) (fun L σ H4 => ∃ (y3 y4 y5 y6 y7 : Option V), σ = [some (.ref r), some (.int many), some (.ref pf), y3, y4, y5, y6, y7] ∧ Same H H4 ∧ RowsN H H4 pf ((List.range (L + 1)).map (cAt n ms es)))
      ⟨none, none, none, none, none, rfl, s3, [D], hf3, rfl, (fun i q e => ?_), fun q hq => by rw [List.mem_singleton.mp hq]; exact nD⟩ (fun _ _ _ _ _ => trivial) ?_ ?_
    · have : i = 0 := by
        have := (List.getElem?_eq_some_iff.mp e).1
        simp at this
        exact this
      subst this
      obtain rfl := Option.some.inj e
      exact hD3
    rotate_left
    · rintro σ H4 ⟨y3, y4, y5, y6, y7, rfl, s4, hR⟩
      exact ⟨_, rfl, q pf H4 s4 n0f hR⟩
    rintro L x σ H4' H4 hi ⟨y3, y4, y5, y6, y7, rfl, s4, hR⟩ ⟨rfl, hx⟩
    have hR0 := hR
    obtain ⟨qs, g1, g2, g3, g4⟩ := hR
    rw [List.length_map, List.length_range] at g2
    have ql : (qs.map V.ref).length = L + 1 := by rw [List.length_map, g2]
    refine ⟨by show 1 ≤ sizeLine; decide, fun t0 nt0 => ?_⟩
    have s5 : Same H4 (upd H4 t0 (.lst [V.int 0])) := same_new nt0
    have h5 : upd H4 t0 (.lst [V.int 0]) t0 = some (.lst [V.int 0]) := upd_same
    generalize upd H4 t0 (.lst [V.int 0]) = H5 at s5 h5 ⊢
    refine ⟨_, rfl, r, _, rfl, gSize ((s4.trans s5) _ _ h1), t0, n, _, rfl, rfl, h5, by omega, by omega, ?_, fun p3 np3 => ?_⟩
    · rw [Int.toNat_natCast, List.length_singleton, Nat.one_mul]
      exact Nat.le_trans nl (by decide)
    rw [Int.toNat_natCast, rep0]
    have s6 : Same H4 (upd H5 p3 (.lst (natsV (List.replicate n 0)))) := s5.trans (same_new np3)
    have h6 : upd H5 p3 (.lst (natsV (List.replicate n 0))) p3 = some (.lst (natsV (List.replicate n 0))) := upd_same
    have n4 : H4 p3 = none := s5.free np3
    generalize upd H5 p3 (.lst (natsV (List.replicate n 0))) = H6 at s6 h6 ⊢
    clean_wf
    have h26 := h2.same (s4.trans s6)
    have h16 := (s4.trans s6) _ _ h1
    obtain ⟨ps, hT, lps, hms⟩ := h2.same s4
    refine ⟨r, _, rfl, gMoves h16, am, rfl, ⟨_, sameT s6 hT⟩, ?_⟩
    refine for_it (walk_tup (K := K) (a := am) (xs := ps.map V.ref)) (fun i σ HI => ∃ (y4 y5 y6 : Option V), σ = [some (.ref r), some (.int many), some (.ref pf), some x, some (.ref p3), y4, y5, y6] ∧ Same H4 HI ∧ HI p3 = some (.lst (natsV (addUp (cAt n ms es L) (ms.take i) (List.replicate n 0)))))
      ⟨_, _, _, rfl, s6, h6⟩ (fun i σ H2 _ h => by obtain ⟨_, _, _, _, h, _⟩ := h; exact sameT h hT) ?_ ?_
    · rintro i x2 σ H7 H8 hi ⟨y4, y5, y6, rfl, s7, h7⟩ ⟨rfl, hx⟩
      rw [List.length_map, lps] at hi
      rw [List.getElem?_map] at hx
      obtain ⟨p, hp, rfl⟩ := Option.map_eq_some_iff.mp hx
      obtain ⟨m, gm, am2⟩ := hms i p hp
      obtain ⟨o1, o2, o3⟩ := O.ok m (List.mem_of_getElem? gm)
      have al : (addUp (cAt n ms es L) (ms.take i) (List.replicate n 0)).length = n := (addUp_len ..).trans (List.length_replicate ..)
      have ea : addUp (cAt n ms es L) (ms.take (i + 1)) (List.replicate n 0) = (addUp (cAt n ms es L) (ms.take i) (List.replicate n 0)).set m.1 ((addUp (cAt n ms es L) (ms.take i) (List.replicate n 0)).getD m.1 0 + (cAt n ms es L).getD m.2.2 0) := by
        unfold addUp
        rw [List.take_add_one, gm, List.foldl_append]
        rfl
      rw [ea]
      generalize addUp (cAt n ms es L) (ms.take i) (List.replicate n 0) = now at al h7 ⊢
      obtain ⟨q0, hq0⟩ : ∃ q0, qs[L]? = some q0 := ⟨qs[L]'(by omega), List.getElem?_eq_getElem _⟩
      have hr := g3 L q0 hq0
      rw [List.getD_eq_getElem?_getD, List.getElem?_map, List.getElem?_range (by omega)] at hr
      have hr : H4 q0 = some (.lst (natsV (cAt n ms es L))) := hr
      refine ⟨p, _, rfl, sameT s7 am2, rfl, _, _, rfl, _, _, rfl, _, _, rfl, rfl, ?_⟩
      refine ⟨_, rfl, _, rfl, p3, _, _, _, rfl, rfl, SqL.of h7, atI_nat (natsV_at (by rw [al]; exact o1)), _, rfl, _, rfl, pf, _, -1, .ref q0, rfl, rfl, SqL.of (s7 _ _ g1), ?_, _, rfl, q0, _, _, _, rfl, rfl, SqL.of (s7 _ _ hr), atI_nat (natsV_at (by rw [cAt_len]; exact o3)), _, _, rfl, rfl, _, rfl, _, rfl, p3, _, _, m.1, rfl, rfl, h7, ixN_ok (by rw [natsV_len, al]; exact o1), _, _, _, rfl, same_upd_of s7 n4, ?_⟩
      · exact at_end (by rw [List.length_map, g2]; show (qs.map V.ref)[L + 1 - 1]? = _; rw [Nat.add_sub_cancel, List.getElem?_map, hq0]; rfl) (by rw [List.length_map]; omega)
      · rw [upd_same]
        unfold natsV
        rw [List.map_set]
        rfl
    rintro σ H7 ⟨y4, y5, y6, rfl, s7, h7⟩
    rw [List.length_map, lps, List.take_length, addUp_lng fun m hm => (O.ok m hm).1] at h7
    have nf : p3 ≠ pf := fun z => by
      rw [z, g1] at n4
      exact nomatch n4
    refine ⟨_, rfl, .inl ⟨rfl, _, SqL.of (s7 _ _ g1)⟩, _, rfl, pf, _, _, rfl, rfl, s7 _ _ g1, Nat.lt_of_lt_of_le (show (qs.map V.ref).length < 5000 by rw [ql]; omega) (by decide), _, _, _, _, _, rfl, same_upd_of (s4.trans s7) n0f, qs ++ [p3], ?_, ?_, (fun i a ha => ?_), fun a ha => ?_⟩
    · rw [upd_same, List.map_append]
      rfl
    · rw [List.length_append, List.length_map, List.length_range, g2]
      rfl
    · by_cases hi : i < qs.length
      · rw [List.getElem?_append_left hi] at ha
        have z := g3 i a ha
        have apf : a ≠ pf := fun y => by
          rw [y, g1] at z
          have z := Option.some.inj z
          injection z with z
          have z2 := refs_ne z
          rw [z2] at g2
          exact nomatch g2
        rw [upd_ne apf, s7 _ _ z, List.getD_eq_getElem?_getD, List.getD_eq_getElem?_getD, List.getElem?_map, List.getElem?_map, List.getElem?_range (by omega), List.getElem?_range (by omega)]
      · have h2 := (List.getElem?_eq_some_iff.mp ha).1
        rw [List.length_append, List.length_singleton] at h2
        have e1 : i = qs.length := by omega
        subst e1
        rw [List.getElem?_concat_length] at ha
        obtain rfl := Option.some.inj ha
        rw [upd_ne nf, h7, List.getD_eq_getElem?_getD, List.getElem?_map, g2, List.getElem?_range (by omega)]
        rfl
    · rcases List.mem_append.mp ha with y | y
      · exact g4 a y
      · rw [List.mem_singleton.mp y]
        exact s4.free n4
end
end SG

/-! d.get(y, z), y a tuple with None within. -/
namespace SG
open PySem PySem.Spec PyProof.Rows L2
/-- None, a whole number, a text -/
def kN : Option Key → V
  | none => .non
  | some k => kV k
theorem kN_is {P : Program} {w : World} {k : Option Key} {u : Value} (r : RelV (kN k) u) : (noneKind P w).is k u = true := by
  cases k with
  | none =>
    obtain rfl : u = Value.none := r
    rfl
  | some k => exact kV_is (P := P) (w := w) r
theorem itemsN {P : Program} {w : World} : ∀ {ks : List (Option Key)} {us : List Value}, Vals (ks.map kN) us → ItemsAre (noneKind P w) ks us
  | [], _, r => by
    cases r
    exact .nil
  | k :: ks, _, r => by
    cases r with
    | cons h t => exact .cons (kN_is h) (itemsN t)
theorem keyN_of {P : Program} {w : World} {H : Hp} {h : Heap} {a : Addr} {ks : List (Option Key)} (ok : HOk P w H h) (e : H a = some (.tup (ks.map kN))) : (tupleKind (noneKind P w)).is h ks a := by
  obtain ⟨_, its, r, o, h1, h2, n, h3⟩ := (show ObjOk P w H h a (.tup (ks.map kN)) from ok a _ e)
  refine ⟨o, its.toArray, n, h1, h2, h3, ?_⟩
  have z := itemsN (P := P) (w := w) r
  rw [List.toList_toArray]
  exact z
theorem items_up {P : Program} {w : World} {ks : List Key} {us : List Value} (h : ItemsAre (mixKind P w) ks us) : ItemsAre (noneKind P w) (ks.map some) us := by
  induction h with
  | nil => exact .nil
  | cons h1 _ ih => exact .cons h1 ih
/-- the same dict, its keys among those that may have None -/
abbrev upN (xs : List (List Key × Addr × Value)) : List (List (Option Key) × Addr × Value) := xs.map fun x => (x.1.map some, x.2)
theorem some_inj : ∀ {a b : List Key}, a.map some = b.map some → a = b
  | [], [], _ => rfl
  | [], b :: bs, h => nomatch h
  | a :: as, [], h => nomatch h
  | a :: as, b :: bs, h => by
    injection h with h1 h2
    injection h1 with h1
    rw [h1, some_inj h2]
theorem dictN {P : Program} {w : World} {h : Heap} {a : Addr} {xs : List (List Key × Addr × Value)} (d : h.DictOfH (tupleKind (mixKind P w)) a xs) : h.DictOfH (tupleKind (noneKind P w)) a (upN xs) := by
  obtain ⟨o, es, ep, h1, h2, h3, h4, h5, h6⟩ := d
  refine ⟨o, es, ep, h1, h2, h3, ?_, ?_, ?_⟩
  · rw [h4, List.map_map]
    refine List.map_congr_left fun x _ => ?_
    have e : (x.1.map some).map (noneKind P w).hash = x.1.map (mixKind P w).hash := by
      rw [List.map_map]
      rfl
    show entryOfKey (tupleKind (mixKind P w)) x = entryOfKey (tupleKind (noneKind P w)) (x.1.map some, x.2)
    unfold entryOfKey
    show (⟨tupleKeyHash (mixKind P w) x.1, _, _⟩ : DictEntry) = ⟨tupleKeyHash (noneKind P w) (x.1.map some), _, _⟩
    unfold tupleKeyHash
    rw [e]
  · intro y hy
    obtain ⟨x, hx, rfl⟩ := List.mem_map.mp hy
    obtain ⟨u, its, n, g1, g2, g3, g4⟩ := h5 x hx
    exact ⟨u, its, n, g1, g2, g3, items_up g4⟩
  · rw [List.map_map]
    have e : (Prod.fst ∘ fun x : List Key × Addr × Value => (x.1.map some, x.2)) = (fun l : List Key => l.map some) ∘ Prod.fst := rfl
    rw [e, ← List.map_map]
    exact List.Pairwise.map _ (fun a b hab z => hab (some_inj z)) h6
theorem atN {xs : List (List Key × Addr × Value)} {k : List (Option Key)} (h : none ∈ k) : atKey (upN xs) k = none := by
  unfold atKey
  rw [Option.map_eq_none_iff, List.find?_eq_none]
  intro y hy
  obtain ⟨x, _, rfl⟩ := List.mem_map.mp hy
  have : x.1.map some ≠ k := fun z => by
    rw [← z] at h
    obtain ⟨v, _, hv⟩ := List.mem_map.mp h
    exact nomatch hv
  simp [this]
section
variable {X : Cx} {pins : List (Addr × Obj)} {σ : L2.St} {H : Hp} {s : Shared} {a b : Addr} {d : V} {r : Value} {A : Around} {E : Value → Shared → Prop} {kvs : List (List Key × V)} {k : List (Option Key)}
theorem d_getN {Q : Value → Shared → Prop} (hu : A.units + 1 < cLine) (I : L2.Inv X pins σ H s) (e : Rd H a (.dT kvs)) (eb : H b = some (.tup (k.map kN))) (hn : none ∈ k) (h : ∀ s', L2.Inv X pins σ H s' → Q r s') :
    wpAny (model X.prog X.w) A (call (.builtin "dict.get") [.ref a, .ref b, r]) Q E s := by
  obtain ⟨_, hd, xs, _, dd⟩ := dt_rd I.hok e
  have dn := dictN dd
  refine call_meetsIn PySem.F.slot_dict_get dn.typeIs PySem.F.entry_dict_get (PySem.F.args_dict_get_3 _ _ _) (meetsH_dict_get_default (tupleKind (noneKind X.prog X.w)) a b hd r) ⟨tupleKind_room_in1 hu, k, _, keyN_of I.hok eb, dn, ?_⟩
  rw [atN hn]
  exact h _ (I.tok _)
end
/-- d.get(y, z), y perhaps a tuple with None within -/
def tDGetN (td ty tx : TE) : TE := fun σ H Q => td σ H fun x H1 => ∃ a, x = .ref a ∧ IsD H1 a ∧ ty σ H1 fun y H2 => tx σ H2 fun z H3 => (∃ o, DGet H3 a y o ∧ Q (o.getD z) H3) ∨
  ∃ (kvs : List (List Key × V)) (k : List (Option Key)) (b : Addr), Rd H3 a (.dT kvs) ∧ y = .ref b ∧ H3 b = some (.tup (k.map kN)) ∧ none ∈ k ∧ Q z H3
section
variable {X : Cx} {o e f : Expr} {td ty tx : TE} {apos cpos : Pos}
theorem pe_dgetN (hu : X.A.units + 1 < cLine) (ho : PE X o td) (he : PE X e ty) (hf : PE X f tx) (m : M2 X o "get" apos e f cpos) : PE X (.Call (.Attribute o "get" apos) [e, f] [] cpos) (tDGetN td ty tx) := by
  refine ⟨fun pins s σ H Q I h => wpAny_Call_method m.base m.few m.line PySem.F.plainAttrs_dict PySem.F.slot_dict_get PySem.F.type_dict_get (thn (ho.run pins s σ H _ I h) fun u s1 ⟨x, H1, I1, rx, a, ex, d, q1⟩ => ?_)⟩
  subst ex
  obtain rfl : u = Value.ref a := rx
  have at1 := isD_at I1 d
  refine ⟨at1.1, at1.2.1, ?_⟩
  rw [m.trees]
  refine Calls.callWith_builtin rfl (Calls.evalArgs_plain (Calls.spliced_cons (thn (he.run pins s1 σ H1 _ I1 q1) fun iv s2 ⟨y, H2, I2, ry, q2⟩ => Calls.spliced_cons (thn (hf.run pins s2 σ H2 _ I2 q2) fun fv s3 ⟨z, H3, I3, rz, q3⟩ => Calls.spliced_nil ?_))))
  rcases q3 with ⟨ov, g, q3⟩ | ⟨kvs, k, b, g1, g2, g3, g4, q3⟩
  · exact d_get2 hu I3 g ry rz fun w' s4 I4 rw' => ⟨_, H3, I4, rw', q3⟩
  · subst g2
    obtain rfl : iv = Value.ref b := ry
    exact d_getN hu I3 g1 g3 g4 fun s4 I4 => ⟨z, H3, I4, rz, q3⟩
end
end SG

/-! dict(a list of pairs), the keys tuples. -/
namespace SG
open PySem PySem.Spec PyProof.Rows L2
abbrev mergeT (kvs more : List (List Key × V)) : List (List Key × V) := more.foldl (fun acc kv => putK acc kv.1 kv.2) kvs
theorem length_mergeT : ∀ more kvs : List (List Key × V), (mergeT kvs more).length ≤ kvs.length + more.length
  | [], kvs => Nat.le_refl _
  | kv :: more, kvs => by
    have h1 := length_mergeT more (putK kvs kv.1 kv.2)
    have h2 := length_putK kvs kv.1 kv.2
    rw [List.length_cons]
    show (mergeT (putK kvs kv.1 kv.2) more).length ≤ _
    omega
theorem KT_merge {H : Hp} : ∀ {more : List (List Key × V)} {prs : List (List Key × Addr × Value)}, KT H more prs → ∀ {kvs : List (List Key × V)} {xs : List (List Key × Addr × Value)}, KT H kvs xs → KT H (mergeT kvs more) (storedAllH xs prs)
  | _, _, .nil, _, _, h => h
  | _, _, .cons (a := kv) (b := q) h t, kvs, xs, r => by
    obtain ⟨e, hb, rv⟩ := h
    have z := KT.put r kv.1 hb rv
    have z2 := KT_merge t z
    show KT H (mergeT (putK kvs kv.1 kv.2) _) (storedAllH (storedH xs q.1 q.2.1 q.2.2) _)
    rw [← e]
    exact z2
section
variable {X : Cx}
theorem pairsT {K : PySem.W.Frag} {pins : List (Addr × Obj)} {σ : L2.St} {H : Hp} {s : Shared} (I : L2.Inv X pins σ H s) (eK : X.K = K) : ∀ {ps : List Addr} {kvs : List (List Key × V)}, Paired (fun p kv => ∃ b : Addr, SqT K H p [V.ref b, kv.2] ∧ H b = some (.tup (kv.1.map kV))) ps kvs →
    ∃ prs : List (List Key × Addr × Value), KT H kvs prs ∧ prs.length = ps.length ∧ ∀ (j : Nat) (q : List Key × Addr × Value), prs[j]? = some q → ∃ b : Addr, ps[j]? = some b ∧ s.heap.IsTuple b #[.ref q.2.1, q.2.2]
  | _, _, .nil => ⟨[], .nil, rfl, fun j q e => by simp at e⟩
  | _, _, .cons (a := p) (b := kv) h t => by
    obtain ⟨prs, r, hl, hp⟩ := pairsT I eK t
    obtain ⟨b, hb, hk⟩ := h
    subst eK
    obtain ⟨its, rv, ht, _⟩ := I.tuple hb
    obtain ⟨u, y, ei, ru, ry⟩ := vals2 rv
    subst ei
    obtain rfl : u = Value.ref b := ru
    refine ⟨(kv.1, b, y) :: prs, .cons ⟨rfl, hk, ry⟩ r, by rw [List.length_cons, List.length_cons, hl], fun j q e => ?_⟩
    cases j with
    | zero =>
      obtain rfl : (kv.1, b, y) = q := Option.some.inj e
      exact ⟨p, rfl, ht⟩
    | succ j =>
      obtain ⟨c, e1, e2⟩ := hp j q (by simpa using e)
      exact ⟨c, by simpa using e1, e2⟩
/-- dict(xs), xs a list of pairs (tuple, value) -/
def rDictPT (K : PySem.W.Frag) : List V → Hp → VK → Prop := fun xs H Q => ∃ (a : Addr) (ps : List Addr) (kvs : List (List Key × V)), xs = [.ref a] ∧ SqL K H a (ps.map V.ref) ∧ Paired (fun p kv => ∃ b : Addr, SqT K H p [V.ref b, kv.2] ∧ H b = some (.tup (kv.1.map kV))) ps kvs ∧ ∀ p, H p = none → Q (.ref p) (upd H p (.dT (mergeT [] kvs)))
theorem k_dictPT {K : PySem.W.Frag} (hc : X.calm = true) (hu : X.A.units + 64 < cLine) (eK : X.K = K := by rfl) : CallR X (.type "dict") (rDictPT K) := by
  intro pins s σ H xs us Q I r h
  obtain ⟨a, ps, kvs, rfl, hq, hp, q⟩ := h
  obtain ⟨u, rfl, rx⟩ := r.one
  obtain rfl : u = Value.ref a := rx
  obtain ⟨prs, rel, hl, hpr⟩ := pairsT I eK hp
  subst eK
  obtain ⟨its, rv, pl, hz⟩ := I.list hq
  obtain rfl := refs_at rv
  rw [List.length_map] at hz
  obtain ⟨o, n, ho, hc1, hd, hdat⟩ := pl
  have P := PairArg.list (prog := X.prog) (w := X.w) a (ps.map Value.ref).toArray (fun j => ps.getD j 0) (prs.map fun q => (Value.ref q.2.1, q.2.2))
  have keyAt : ∀ x ∈ prs, (tupleKind (mixKind X.prog X.w)).is s.heap x.1 x.2.1 := by
    have all : ∀ {l : List (List Key × V)} {m : List (List Key × Addr × Value)}, KT H l m → ∀ x ∈ m, (tupleKind (mixKind X.prog X.w)).is s.heap x.1 x.2.1 := by
      intro l m q
      induction q with
      | nil => exact fun x hx => nomatch hx
      | @cons p q ps qs hq t ih =>
        intro x hx
        rcases List.mem_cons.mp hx with e | hx
        · subst e
          exact key_of I.hok (by rw [← hq.1]; exact hq.2.1)
        · exact ih x hx
    exact all rel
  refine call_dict_pairsH (knd := tupleKind (mixKind X.prog X.w)) (ps := prs) P (I.ok.hd hc) (tupleKind_room_in1 ?_) ⟨⟨o, n, ho, hc1, hd, hdat⟩, ?_, fun j k v e => ?_⟩ ⟨by rw [List.length_map], fun i key v e => ?_⟩ (fun h' hk x hx => ?_) (by rw [List.length_map, hl]; exact hz) fun h' tk hd' k => ?_
  · show X.A.units + 1 + 1 < cLine
    omega
  · rw [List.length_map, List.size_toArray, List.length_map, hl]
  · rw [List.getElem?_map] at e
    obtain ⟨x, hx, e⟩ := Option.map_eq_some_iff.mp e
    injection e with e1 e2
    subst e1 e2
    obtain ⟨c, h1, h2⟩ := hpr j x hx
    have e3 : ps.getD j 0 = c := by rw [List.getD_eq_getElem?_getD, h1]; rfl
    dsimp only
    rw [e3]
    exact ⟨by simp [h1], .inl h2⟩
  · have e : (prs.map fun q => (Value.ref q.2.1, q.2.2))[i]? = some (key, v) := e
    rw [List.getElem?_map] at e
    obtain ⟨x, hx, e⟩ := Option.map_eq_some_iff.mp e
    injection e with e1 e2
    subst e1 e2
    exact ⟨x.1, x.2.1, hx, rfl⟩
  · obtain ⟨u, its, m, g1, g2, g3, g4⟩ := keyAt x hx
    exact ⟨u, its, m, hk _ _ (Nat.ne_of_lt (Heap.lt_size g1)) (fun z => nomatch z) g1, g2, g3, g4⟩
  · have hm : (s.heap.objs.size == sysModules) = false := beq_eq_false_iff_ne.mpr (Nat.ne_of_gt I.big)
    have kl : kvs.length = ps.length := by rw [← hl]; exact Paired.length rel
    have hlen : (mergeT [] kvs).length ≤ sizeLine := by
      refine Nat.le_trans (length_mergeT kvs []) ?_
      rw [List.length_nil, Nat.zero_add, kl]
      exact hz
    obtain ⟨o2, es, ep, h1, h2, h3, h4, _, h6⟩ := hd'
    have fresh : H s.heap.objs.size = none := I.hok.fresh (Nat.le_refl _)
    have rel2 : KT (upd H s.heap.objs.size (.dT (mergeT [] kvs))) kvs prs := rel.keeps fun b ys e => by
      rw [upd_ne (ne_of_none e fresh)]
      exact e
    exact ⟨.ref s.heap.objs.size, upd H s.heap.objs.size (.dT (mergeT [] kvs)), I.laid (t' := tk) (fun b o e => k b o (fun z => nomatch z) e) (Nat.le_refl _) (show ObjOk X.prog X.w _ _ _ (.dT (mergeT [] kvs)) from ⟨hlen, hm, storedAllH [] prs, KT_merge rel2 .nil, o2, es, ep, h1, h2, h3, h4, h6⟩), rfl, q _ fresh⟩
end
end SG

/-! Where the law says that a word leads, whether there are endlessly many. -/
namespace SG
open PySem PySem.Spec PyProof PyProof.Rows L2
local macro_rules
  | `(tactic| clean_wf) => `(tactic| repeat (first | refine ⟨_, rfl, ?_⟩ | refine ⟨rfl, ?_⟩ | refine ⟨_, _, rfl, ?_⟩ | refine ⟨_, _, rfl, rfl, ?_⟩ | refine ⟨_, _, _, rfl, ?_⟩ | refine ⟨_, _, _, _, rfl, ?_⟩))
local macro_rules
  | `(tactic| exists $u:ident, $n:ident, $H:ident, $q:ident, $e:ident) => `(tactic| (refine ⟨by first | exact Nat.zero_le _ | assumption | (simp only [List.length_cons, List.length_nil]; decide), fun $u $n => ?_⟩; generalize hh : upd _ $u _ = $H; obtain ⟨$q, $e⟩ := mkq $n hh; clear hh))
local macro_rules
  | `(tactic| simp_wf) => `(tactic| first | assumption | exact upd_same | (refine (by assumption : Same _ _) _ _ ?_; simp_wf) | (refine (by assumption : Kept _ _ _ _) _ _ ?_ (by assumption) (by assumption); simp_wf))
local macro_rules
  | `(tactic| decreasing_trivial) => `(tactic| first | assumption | exact .inl (.inl (by assumption)) | (refine sameT (by assumption) ?_; decreasing_trivial))
local macro_rules
  | `(tactic| array_get_dec) => `(tactic| first | assumption | (refine CdAt.same (by assumption) ?_; array_get_dec))
def kvM (m : Mv) : List Key × V := ([Sum.inl (m.1 : Int), Sum.inr (sgn m.2.1)], .int (m.2.2 : Int))
theorem goals_val {n : Nat} {ms : List Mv} {es : List Nat} (O : FmOk n ms es) (s g : Nat) : ∀ i, i ≤ ms.length → valV (mergeT [] ((ms.take i).map kvM)) [Sum.inl (s : Int), Sum.inr (sgn g)] = (nxt (ms.take i) s g).map fun t : Nat => V.int (t : Int)
  | 0, _ => rfl
  | i + 1, hi => by
    obtain ⟨m, gm⟩ : ∃ m, ms[i]? = some m := ⟨ms[i], List.getElem?_eq_getElem _⟩
    have ih := goals_val O s g i (by omega)
    have etk : ms.take (i + 1) = ms.take i ++ [m] := by
      rw [List.take_add_one, gm]
      rfl
    have fresh : nxt (ms.take i) m.1 m.2.1 = none := by
      cases e : nxt (ms.take i) m.1 m.2.1 with
      | none => rfl
      | some t =>
        exfalso
        have pw := pw_lat O.up
        have hm := nxt_some e
        obtain ⟨j, hj, ej⟩ := List.getElem_of_mem hm
        rw [List.getElem_take] at ej
        have hj2 : j < i := by rw [List.length_take] at hj; omega
        obtain ⟨hi2, ei⟩ := List.getElem?_eq_some_iff.mp gm
        have z := List.pairwise_iff_getElem.mp pw j i (by omega) hi2 hj2
        rw [ej, ei] at z
        unfold Lat at z
        dsimp only at z
        omega
    have em : mergeT [] (((ms.take i) ++ [m]).map kvM) = putK (mergeT [] ((ms.take i).map kvM)) (kvM m).1 (kvM m).2 := by
      rw [List.map_append]
      show List.foldl _ _ (_ ++ [kvM m]) = _
      rw [List.foldl_append]
      rfl
    rw [etk, em, valV_put, nxt_add fresh, ih]
    by_cases c : m.1 = s ∧ m.2.1 = g
    · obtain ⟨rfl, rfl⟩ := c
      rw [if_pos (⟨rfl, rfl⟩ : m.1 = m.1 ∧ m.2.1 = m.2.1)]
      exact if_pos rfl
    · rw [if_neg c, if_neg]
      intro z
      injection z with z1 z2
      injection z1 with z1
      injection z2 with z2 _
      injection z2 with z2
      have z3 : (#[g] : Array Nat) = #[m.2.1] := congrArg Str.cps z2
      exact c ⟨by omega, by simpa using z3.symm⟩
/-- pairs of a key and a goal, one for each move -/
def PairsAt (H : Hp) (ps : List Addr) (ms : List Mv) : Prop := Paired (fun p kv => ∃ b : Addr, H p = some (.tup [V.ref b, kv.2]) ∧ H b = some (.tup (kv.1.map kV))) ps (ms.map kvM)
theorem PairsAt.same {H H2 : Hp} {ps : List Addr} {ms : List Mv} (s : Same H H2) (h : PairsAt H ps ms) : PairsAt H2 ps ms :=
  Paired.mono (fun p kv ⟨b, h1, h2⟩ => ⟨b, s _ _ h1, s _ _ h2⟩) h
theorem PairsAt.upd {H : Hp} {ps : List Addr} {ms : List Mv} {p : Addr} {xs : List V} {o : HO} (hp : H p = some (.lst xs)) (h : PairsAt H ps ms) : PairsAt (upd H p o) ps ms :=
  Paired.mono (fun q kv ⟨b, h1, h2⟩ => ⟨b, (upd_ne (fun z => by rw [z, hp] at h1; exact nomatch h1)).trans h1, (upd_ne (fun z => by rw [z, hp] at h2; exact nomatch h2)).trans h2⟩) h
section
variable {P : Program} {w : World} {K : PySem.W.Frag} {mg : Str → Option Value} {base : Heap} {Z : Ads}
def spLLed (K : PySem.W.Frag) : Sp := fun vs H Q _ => ∃ (r : Addr) (n : Nat) (ms : List Mv) (es : List Nat) (z : Str), vs = [.ref r, .str z] ∧ WAt K H r n ms es ∧ ∀ H2, Same H H2 → Q (optV (ledW ms 0 z.cps.toList)) H2
theorem ok_lled {f : Addr} {fd : FuncData} (F : Fun K "_law_led" "_law_led" s__law_led f fd) (T : Txt mg) : GFn P w K mg base CX0 1 f fd ["_law_w", "_law_word"] (spLLed K) := by
  refine gfun_ok F sc__law_led (fun vs H Q E h => ?_) (fun cdv A outer s H vs Q E hgu hr h => ?_)
  · obtain ⟨r, n, ms, es, z, rfl, _⟩ := h
    rfl
  · obtain ⟨r, n, ms, es, z, rfl, ⟨O, n4, ml, am, ae, gs, h1, h2, h3, h4⟩, q⟩ := h
    have nd := sc__law_led.nd
    refine ⟨_, (pss_cons (ps_par (i := 2) (j := 3) rfl nd rfl rfl (by decide) rfl rfl (pa_cons pe_int (pa_cons (pe_callTy (k_dictPT (K := K) rfl hr.units) (by rfl) T.dict (by decide +kernel) (pa_cons (pe_lc (own := [("_law_here", 5), ("_law_letter", 4), ("_law_to", 6)]) rfl nd (pi_tup (pe_dget (hu_of hr) (pv 0) pe_str (fun _ _ => rfl))) (blkOk_by (N := N__law_led) (sc := defScope s__law_led) (by decide +kernel)) (fun _ _ _ _ _ => (k_tg (K := K) (n := 3) rfl (pgs_cons (pg_name (i := 5) nd rfl (Or.inl rfl)) (pgs_cons (pg_name (i := 4) nd rfl (Or.inl rfl)) (pgs_cons (pg_name (i := 6) nd rfl (Or.inl rfl)) pgs_nil))))) (fun _ _ _ _ _ => pts_nil) (fun _ _ _ _ _ => (pe_tup (pa_cons (pe_tup (pa_cons (pv 5) (pa_cons (pv 4) pa_nil))) (pa_cons (pv 6) pa_nil))))) pa_nil)) pa_nil)) (by rfl))
      (pss_cons (ps_for PassesOwn.never rfl (pi_str (pv 1)) (pg_name (i := 4) nd rfl (Or.inl rfl))
        (pss_one (ps_set (i := 2) nd rfl (Or.inl rfl) (pe_dgetN (hu_of hr) (pv 3) (pe_tup (pa_cons (pv 2) (pa_cons (pv 4) pa_nil))) pe_non ⟨by rfl, by rfl, by rfl, by rfl⟩))))
      (pss_one (ps_ret (pv 2))))), ?_⟩
    obtain ⟨ps, hT, lps, hms⟩ := h2
    clean_wf
    refine ⟨r, _, rfl, gMoves h1, am, rfl, ⟨_, hT⟩, fun D nD => ?_⟩
    refine lc_it (walk_tup (K := K) (a := am) (xs := ps.map V.ref)) (fun i HI => ∃ qs : List Addr, Same H HI ∧ HI D = some (.lst (qs.map V.ref)) ∧ PairsAt HI qs (ms.take i)) ⟨[], same_new nD, upd_same, .nil⟩ (fun i HI _ h => by obtain ⟨_, h, _⟩ := h; exact sameT h hT) ?_ ?_
    · rintro i x H2 H3 hi ⟨qs, s2, hD, hq⟩ ⟨rfl, hx⟩
      rw [List.length_map, lps] at hi
      rw [List.getElem?_map] at hx
      obtain ⟨p, hp, rfl⟩ := Option.map_eq_some_iff.mp hx
      obtain ⟨m, gm, am2⟩ := hms i p hp
      have ql : qs.length = i := by
        have := Paired.length hq
        rw [List.length_map, List.length_take] at this
        omega
      have etk : ms.take (i + 1) = ms.take i ++ [m] := by
        rw [List.take_add_one, gm]
        rfl
      refine ⟨p, _, rfl, sameT s2 am2, rfl, _, _, rfl, _, _, rfl, _, _, rfl, rfl, wipe3b _ _ _ _ _ _ _, ?_⟩
      refine yesI ?_
      refine ⟨_, rfl, _, rfl, by show 2 ≤ sizeLine; decide, fun b nb => ⟨_, rfl, by show 2 ≤ sizeLine; decide, fun p2 np2 => ?_⟩⟩
      have s3 := (same_new (o := .tup [V.int (m.1 : Int), V.str (sgn m.2.1)]) nb).trans (same_new (o := .tup [V.ref b, V.int (m.2.2 : Int)]) np2)
      have hb := (same_new (o := .tup [V.ref b, V.int (m.2.2 : Int)]) np2) _ _ (upd_same (H := H3) (a := b) (o := .tup [V.int (m.1 : Int), V.str (sgn m.2.1)]))
      have hp2 : upd (upd H3 b (.tup [V.int (m.1 : Int), V.str (sgn m.2.1)])) p2 (.tup [V.ref b, V.int (m.2.2 : Int)]) p2 = some (.tup [V.ref b, V.int (m.2.2 : Int)]) := upd_same
      generalize upd (upd H3 b (.tup [V.int (m.1 : Int), V.str (sgn m.2.1)])) p2 (.tup [V.ref b, V.int (m.2.2 : Int)]) = H4 at s3 hb hp2 ⊢
      refine ⟨_, s3 _ _ hD, Nat.lt_of_lt_of_le (show (qs.map V.ref).length < 5000 by rw [List.length_map]; omega) (by decide), qs ++ [p2], same_upd_of (s2.trans s3) nD, by rw [upd_same, List.map_append]; rfl, ?_⟩
      refine PairsAt.upd (s3 _ _ hD) ?_
      rw [etk]
      unfold PairsAt
      rw [List.map_append]
      exact Paired.snoc (hq.same s3) ⟨b, hp2, hb⟩
    rintro H2 ⟨qs, s2, hD, hq⟩
    rw [List.length_map, lps, List.take_length] at hq
    refine ⟨D, qs, ms.map kvM, rfl, SqL.of hD, Paired.mono (fun p kv ⟨b, e1, e2⟩ => ⟨b, .inl (.inl e1), e2⟩) hq, fun d nd2 => ?_⟩
    have hv := fun s g => goals_val O s g ms.length (Nat.le_refl _)
    rw [List.take_length] at hv
    have hd : upd H2 d (.dT (mergeT [] (ms.map kvM))) d = some (.dT (mergeT [] (ms.map kvM))) := upd_same
    have s3 := s2.trans (same_new (o := .dT (mergeT [] (ms.map kvM))) nd2)
    generalize mergeT [] (ms.map kvM) = kvs at hv hd s3 ⊢
    generalize upd H2 d (.dT kvs) = H3 at hd s3 ⊢
    refine ⟨_, _, rfl, ?_⟩
    refine ⟨_, rfl, z, rfl, ?_⟩
    refine for_it walk_str (fun i σ HI => ∃ (y4 : Option V), σ = [some (.ref r), some (.str z), some (optV (ledW ms 0 (z.cps.toList.take i))), some (.ref d), y4, none, none] ∧ Same H3 HI) ⟨none, rfl, Same.refl _⟩ (fun _ _ _ _ _ => trivial) ?_ ?_
    · rintro i x σ H4 H5 hi ⟨y4, rfl, s4⟩ ⟨rfl, g, hg, rfl⟩
      have hg2 : z.cps.toList[i]? = some g := by rw [← hg]; exact Array.getElem?_toList ..
      have et : z.cps.toList.take (i + 1) = z.cps.toList.take i ++ [g] := by
        rw [List.take_add_one, hg2]
        rfl
      rw [et, led_app]
      cases el : ledW ms 0 (z.cps.toList.take i) with
      | none =>
        refine ⟨_, rfl, d, rfl, .inr ⟨_, .inl (s4 _ _ hd)⟩, ?_⟩
        refine ⟨_, rfl, _, rfl, (by show 2 ≤ sizeLine; decide), fun T nT => ?_⟩
        refine .inr ⟨kvs, [none, some (Sum.inr (sgn g))], T, .inl (same_new nT _ _ (s4 _ _ hd)), rfl, upd_same, by simp, ?_⟩
        exact ⟨_, rfl, s4.trans (same_new nT)⟩
      | some t =>
        refine ⟨_, rfl, d, rfl, .inr ⟨_, .inl (s4 _ _ hd)⟩, ?_⟩
        refine ⟨_, rfl, _, rfl, (by show 2 ≤ sizeLine; decide), fun T nT => ?_⟩
        refine .inl ⟨_, DGet.t (k := [Sum.inl (t : Int), Sum.inr (sgn g)]) (same_new nT _ _ (s4 _ _ hd)) upd_same, ?_⟩
        rw [hv, opt_get]
        have e3 : ((some t).bind fun t => ledW ms t [g]) = nxt ms t g := by
          show ledW ms t [g] = _
          unfold ledW
          cases nxt ms t g <;> rfl
        rw [e3]
        exact ⟨_, rfl, s4.trans (same_new nT)⟩
    rintro σ H4 ⟨y4, rfl, s4⟩
    rw [show z.cps.size = z.cps.toList.length from (Array.length_toList ..).symm, List.take_length]
    exact ⟨_, rfl, q H4 (s3.trans s4)⟩
end
end SG

/-! What the law says of numbers. -/
namespace SG
open PySem PySem.Spec PyProof PyProof.Rows L2
open SX (S)
local macro_rules
  | `(tactic| clean_wf) => `(tactic| repeat (first | refine ⟨_, rfl, ?_⟩ | refine ⟨rfl, ?_⟩ | refine ⟨_, _, rfl, ?_⟩ | refine ⟨_, _, rfl, rfl, ?_⟩ | refine ⟨_, _, _, rfl, ?_⟩ | refine ⟨_, _, _, _, rfl, ?_⟩))
local macro_rules
  | `(tactic| exists $u:ident, $n:ident, $H:ident, $q:ident, $e:ident) => `(tactic| (refine ⟨by first | exact Nat.zero_le _ | assumption | (simp only [List.length_cons, List.length_nil]; decide), fun $u $n => ?_⟩; generalize hh : upd _ $u _ = $H; obtain ⟨$q, $e⟩ := mkq $n hh; clear hh))
local macro_rules
  | `(tactic| simp_wf) => `(tactic| first | assumption | exact upd_same | (refine (by assumption : Same _ _) _ _ ?_; simp_wf) | (refine (by assumption : Kept _ _ _ _) _ _ ?_ (by assumption) (by assumption); simp_wf))
local macro_rules
  | `(tactic| decreasing_trivial) => `(tactic| first | assumption | exact .inl (.inl (by assumption)) | (refine sameT (by assumption) ?_; decreasing_trivial))
local macro_rules
  | `(tactic| array_get_dec) => `(tactic| first | assumption | (refine CdAt.same (by assumption) ?_; array_get_dec))
theorem RowsN.at {H0 H : Hp} {p : Addr} {rows : List (List Nat)} (h : RowsN H0 H p rows) : RowsAt H p rows := by
  obtain ⟨qs, h1, h2, h3, _⟩ := h
  exact ⟨qs, h1, h2, h3⟩
theorem cut_drop (xs : List V) (n : Nat) : cutV xs (some (n : Int)) none = xs.drop n := by
  unfold cutV
  rw [HT.sIx_none, HT.sIx_nat]
  rcases Nat.le_total n xs.length with h | h
  · rw [Nat.min_eq_left h]
    refine List.take_of_length_le ?_
    rw [List.length_drop]
    exact Nat.le_refl _
  · rw [Nat.min_eq_right h, List.drop_eq_nil_of_le h, List.drop_eq_nil_of_le (Nat.le_refl _), List.take_nil]
section
variable {P : Program} {w : World} {K : PySem.W.Frag} {mg : Str → Option Value} {base : Heap} {Z : Ads}
def spLEnd (K : PySem.W.Frag) : Sp := fun vs H Q _ => ∃ (r : Addr) (n : Nat) (ms : List Mv) (es : List Nat) (b : Bool), vs = [.ref r] ∧ WAt K H r n ms es ∧ EndN n ms es b ∧ ∀ H2, Same H H2 → Q (.bl b) H2
theorem ok_lend {f f1 : Addr} {fd fd1 : FuncData} (F : Fun K "_law_is_endless" "_law_is_endless" s__law_is_endless f fd) (F__law_table : Fun K "_law_table" "_law_table" s__law_table f1 fd1) (m__law_table : mg "_law_table" = some (.ref f1)) (b__law_table : Binds K fd1 ["_law_w", "_law_many"] []) (T : Txt mg) : GFn P w K mg base CX0 2 f fd ["_law_w"] (spLEnd K) := by
  have G__law_table : GFn P w K mg base CX0 1 f1 fd1 ["_law_w", "_law_many"] (spTab K) := ok_table F__law_table T
  refine gfun_ok F sc__law_is_endless (fun vs H Q E h => ?_) (fun cdv A outer s H vs Q E hgu hr h => ?_)
  · obtain ⟨r, n, ms, es, b, rfl, _⟩ := h
    rfl
  · obtain ⟨r, n, ms, es, b, rfl, hW, hb, q⟩ := h
    have nd := sc__law_is_endless.nd
    refine ⟨_, (pss_one (ps_ret (pe_cmpR (k_neE (K := K) hr.units) (pe_lc (own := [("_law_row", 1)]) rfl nd (pi_list (pe_slice (k_slL (K := K)) (pe_g G__law_table hgu (hr.mono (by decide)) (by rfl) m__law_table F__law_table.kp b__law_table .nil pass0 (pa_cons (pv 0) (pa_cons (pe_op op_mul pe_int (pe_dget (hu_of hr) (pv 0) pe_str (fun _ _ => rfl))) pa_nil))) (po_some (pe_dget (hu_of hr) (pv 0) pe_str (fun _ _ => rfl))) po_none)) (blkOk_by (N := N__law_is_endless) (sc := defScope s__law_is_endless) (by decide +kernel)) (fun _ _ _ _ _ => (pg_name (i := 1) nd rfl (Or.inl rfl))) (fun _ _ _ _ _ => (pts_one (pt_cmpR op_gt (pe_ix (k_ixL (K := K)) (pv 1) pe_int (fun _ _ => rfl)) pe_int (nomark _)))) (fun _ _ _ _ _ => (pv 1))) (pe_lst pa_nil) (nomark _)))), ?_⟩
    have hW0 := hW
    obtain ⟨O, n4, ml, am, ae, gs, h1, h2, h3, h4⟩ := hW
    refine ⟨_, rfl, _, rfl, r, _, rfl, gSize h1, _, _, rfl, rfl, .inl (by omega), ?_⟩
    refine ⟨r, n, ms, es, 2 * n, by rw [show (fun i j : Int => V.int (i * j)) 2 (n : Int) = V.int ((2 * n : Nat) : Int) from congrArg V.int (by omega)]; rfl, hW0, by omega, fun p H1 s1 np hR => ?_⟩
    obtain ⟨qs, g1, g2, g3, g4⟩ := hR
    rw [List.length_map, List.length_range] at g2
    refine ⟨_, rfl, r, _, rfl, gSize (s1 _ _ h1), n, rfl, p, _, rfl, SqL.of g1, fun p2 np2 => ?_⟩
    rw [cut_drop]
    have s2 := s1.trans (same_new (o := .lst ((qs.map V.ref).drop n)) np2)
    have g32 : ∀ (i : Nat) (q : Addr), qs[i]? = some q → upd H1 p2 (.lst ((qs.map V.ref).drop n)) q = some (.lst (natsV (cAt n ms es i))) := fun i q e => by
      have z := same_new (o := .lst ((qs.map V.ref).drop n)) np2 _ _ (g3 i q e)
      have hi := (List.getElem?_eq_some_iff.mp e).1
      rw [List.getD_eq_getElem?_getD, List.getElem?_map, List.getElem?_range (by omega)] at z
      exact z
    have h2 : upd H1 p2 (.lst ((qs.map V.ref).drop n)) p2 = some (.lst ((qs.map V.ref).drop n)) := upd_same
    generalize upd H1 p2 (.lst ((qs.map V.ref).drop n)) = H2 at s2 h2 g32 ⊢
    refine ⟨p2, rfl, ⟨_, SqL.of h2⟩, fun D nD => ?_⟩
    have dl : ((qs.map V.ref).drop n).length = n + 1 := by rw [List.length_drop, List.length_map]; omega
    refine lc_filW (walk_list (K := K) (a := p2) (xs := (qs.map V.ref).drop n)) (by omega) nD (fun j => decide (0 < cnt0 n ms es (n + j))) (fun j => ((qs.map V.ref).drop n).getD j .non) (fun H3 s3 => SqL.of (s3 _ _ h2)) ?_ ?_
    · rintro j x H3 H4 hj s3 ⟨rfl, hx⟩ R N hR hN
      have ex : ((qs.map V.ref).drop n).getD j .non = x := by rw [List.getD_eq_getElem?_getD, hx]; rfl
      rw [ex] at hR
      rw [List.getElem?_drop, List.getElem?_map] at hx
      obtain ⟨c, hc, rfl⟩ := Option.map_eq_some_iff.mp hx
      have hrow := s3 _ _ (g32 _ c hc)
      refine ⟨wipe1 _ _ _, ?_⟩
      refine ⟨_, rfl, c, _, 0, _, rfl, rfl, SqL.of hrow, atI_nat (j := 0) (cAt_get O.n0), _, _, rfl, rfl, _, rfl, ?_⟩
      by_cases lt : 0 < cnt0 n ms es (n + j)
      · refine ifT (decide_eq_true (by unfold cnt0 at lt; omega)) ?_
        exact ⟨_, rfl, hR (decide_eq_true lt) _ (Same.refl _)⟩
      · refine ifF (decide_eq_false (by unfold cnt0 at lt; omega)) ?_
        exact hN (decide_eq_false lt) _ (Same.refl _)
    intro H3 s3 hD
    rw [dl] at hD
    refine ⟨Nat.zero_le _, fun p4 np4 => ?_⟩
    have s4 := s2.trans (s3.trans (same_new (o := .lst []) np4))
    refine ⟨D, p4, _, rfl, rfl, .inr ⟨SqL.of (same_new (o := .lst []) np4 _ _ hD), SqL.of upd_same⟩, ?_⟩
    have e : (!(((List.range (n + 1)).filter fun j => decide (0 < cnt0 n ms es (n + j))).map fun j => ((qs.map V.ref).drop n).getD j .non).isEmpty) = b := by
      refine endN_one (n := n) (ms := ms) (es := es) (Iff.trans ?_ Iff.rfl) hb
      rw [Bool.not_eq_true', List.isEmpty_eq_false_iff_exists_mem]
      constructor
      · rintro ⟨x, hx⟩
        obtain ⟨j, hj, _⟩ := List.mem_map.mp hx
        exact ⟨n + j, by omega, of_decide_eq_true (List.mem_filter.mp hj).2⟩
      · rintro ⟨k, hk, hc⟩
        obtain ⟨j, j1, j2, hc⟩ := long_small O k hk hc
        refine ⟨_, List.mem_map.mpr ⟨j - n, List.mem_filter.mpr ⟨List.mem_range.mpr (by omega), decide_eq_true ?_⟩, rfl⟩⟩
        rw [show n + (j - n) = j by omega]
        exact hc
    rw [e]
    exact q _ s4
/-- what the law tells of a number -/
def atV : Due → V
  | .no => .non
  | .wd l => .str (S l)
  | .long => .str "LONG"
theorem dueN_some {n : Nat} {ms : List Mv} {es : List Nat} {b : Bool} {i : Nat} {l r : Nat} (h : placeN (cnt0 n ms es) 201 0 i = some (l, r)) : dueN n ms es b (i : Int) = .wd (wordN n ms es 0 l r) := by
  unfold dueN
  rw [if_pos (by omega), show ((i : Int)).toNat = i from Int.toNat_natCast i, h]
theorem dueN_none {n : Nat} {ms : List Mv} {es : List Nat} {b : Bool} {i : Nat} (h : placeN (cnt0 n ms es) 201 0 i = none) : dueN n ms es b (i : Int) = if b = true then .long else .no := by
  unfold dueN
  rw [if_pos (by omega), show ((i : Int)).toNat = i from Int.toNat_natCast i, h]
theorem gre_is : ∀ (w : List Nat) (p i r : Nat), p < w.length → i = (w.take p).sum + r → r < w.getD p 0 → gre w i = (p, r)
  | x :: w, 0, i, r, _, h, lt => by
    have e : i = r := by simpa using h
    subst e
    unfold gre
    rw [if_pos (by simpa using lt)]
  | x :: w, p + 1, i, r, hp, h, lt => by
    rw [List.take_succ_cons, List.sum_cons] at h
    unfold gre
    rw [if_neg (by omega), gre_is w p (i - x) r (by simpa using hp) (by omega) (by simpa using lt)]
/-- moves, each a tuple -/
def PrM (K : PySem.W.Frag) (H : Hp) (us : List Addr) (t : Nat) (ps : List (Nat × Nat)) : Prop := us.length = ps.length ∧ ∀ (k : Nat) (u : Addr), us[k]? = some u → ∃ p, ps[k]? = some p ∧ SqT K H u [.int (t : Int), .str (sgn p.1), .int (p.2 : Int)]
theorem PrM.same {K : PySem.W.Frag} {H H2 : Hp} {us : List Addr} {t : Nat} {ps : List (Nat × Nat)} (s : Same H H2) (h : PrM K H us t ps) : PrM K H2 us t ps := ⟨h.1, fun k u e => by
  obtain ⟨p, h1, h2⟩ := h.2 k u e
  exact ⟨p, h1, sameT s h2⟩⟩
def spLAt (K : PySem.W.Frag) : Sp := fun vs H Q _ => ∃ (r pr : Addr) (n : Nat) (ms : List Mv) (es : List Nat) (b : Bool) (i : Int), vs = [.ref r, .int i, .ref pr] ∧ WAt K H r n ms es ∧ RowsAt H pr ((List.range 201).map (cAt n ms es)) ∧ EndN n ms es b ∧ ∀ H2, Same H H2 → Q (atV (dueN n ms es b i)) H2
theorem ok_lat {f f1 : Addr} {fd fd1 : FuncData} (F : Fun K "_law_at" "_law_at" s__law_at f fd) (F__law_is_endless : Fun K "_law_is_endless" "_law_is_endless" s__law_is_endless f1 fd1) (m__law_is_endless : mg "_law_is_endless" = some (.ref f1)) (b__law_is_endless : Binds K fd1 ["_law_w"] []) (G__law_is_endless : GFn P w K mg base CX0 2 f1 fd1 ["_law_w"] (spLEnd K)) (T : Txt mg) : GFn P w K mg base CX0 3 f fd ["_law_w", "_law_number", "_law_rows"] (spLAt K) := by
  refine gfun_ok F sc__law_at (fun vs H Q E h => ?_) (fun cdv A outer s H vs Q E hgu hr h => ?_)
  · obtain ⟨r, pr, n, ms, es, b, i, rfl, _⟩ := h
    rfl
  · obtain ⟨r, pr, n, ms, es, b, i, rfl, hW, hR, hb, q⟩ := h
    have nd := sc__law_at.nd
    refine ⟨_, (pss_cons (ps_if (pt_cmpR op_lt (pv 1) pe_int (nomark _)) (pss_one (ps_ret pe_non)) pss_nil)
      (pss_cons (ps_for PassesOwn.never rfl (k_enum (K := K) (by rfl) T.enumerate (pa_cons (pv 2) pa_nil)) (k_tg (K := K) (n := 2) rfl (pgs_cons (pg_name (i := 3) nd rfl (Or.inl rfl)) (pgs_cons (pg_name (i := 4) nd rfl (Or.inl rfl)) pgs_nil)))
        (pss_cons (ps_if (pt_cmpR op_lt (pv 1) (pe_ix (k_ixL (K := K)) (pv 4) pe_int (fun _ _ => rfl)) (nomark _)) (pss_cons (ps_asg (pe_tup (pa_cons pe_str (pa_cons pe_int pa_nil))) (k_tg (K := K) (n := 2) rfl (pgs_cons (pg_name (i := 5) nd rfl (Or.inl rfl)) (pgs_cons (pg_name (i := 6) nd rfl (Or.inr rfl)) pgs_nil))))
      (pss_cons (ps_for PassesOwn.never rfl (pi_range1 rfl T.range (pa_cons (pv 3) pa_nil)) (pg_name (i := 7) nd rfl (Or.inl rfl))
        (pss_one (ps_for PassesOwn.never rfl (pi_list (pe_lc (own := [("_law_move", 12)]) rfl nd (pi_tup (pe_dget (hu_of hr) (pv 0) pe_str (fun _ _ => rfl))) (blkOk_by (N := N__law_at) (sc := defScope s__law_at) (by decide +kernel)) (fun _ _ _ _ _ => (pg_name (i := 12) nd rfl (Or.inl rfl))) (fun _ _ _ _ _ => (pts_one (pt_cmpR op_eq (pe_ix (k_ixT (K := K)) (pv 12) pe_int (fun _ _ => rfl)) (pv 6) (nomark _)))) (fun _ _ _ _ _ => (pv 12)))) (k_tg (K := K) (n := 3) rfl (pgs_cons (pg_name (i := 8) nd rfl (Or.inl rfl)) (pgs_cons (pg_name (i := 9) nd rfl (Or.inl rfl)) (pgs_cons (pg_name (i := 10) nd rfl (Or.inl rfl)) pgs_nil))))
        (pss_cons (ps_set (i := 11) nd rfl (Or.inl rfl) (pe_ix (k_ixL (K := K)) (pe_ix (k_ixL (K := K)) (pv 2) (pe_op op_sub (pe_op op_sub (pv 3) (pv 7)) pe_int) (fun _ _ => rfl)) (pv 10) (fun _ _ => rfl)))
      (pss_one (ps_if (pt_cmpR op_ge (pv 1) (pv 11) (nomark _)) (pss_one (ps_set (i := 1) nd rfl (Or.inl rfl) (pe_op op_sub (pv 1) (pv 11)))) (pss_cons (ps_asg (pe_tup (pa_cons (pe_op op_add_str (pv 5) (pv 9)) (pa_cons (pv 10) pa_nil))) (k_tg (K := K) (n := 2) rfl (pgs_cons (pg_name (i := 5) nd rfl (Or.inl rfl)) (pgs_cons (pg_name (i := 6) nd rfl (Or.inr rfl)) pgs_nil))))
      (pss_one ps_break))))))))
      (pss_one (ps_ret (pv 5))))) pss_nil)
      (pss_one (ps_set (i := 1) nd rfl (Or.inl rfl) (pe_op op_sub (pv 1) (pe_ix (k_ixL (K := K)) (pv 4) pe_int (fun _ _ => rfl)))))))
      (pss_one (ps_ret (pe_ifExp (pt_val (pe_g G__law_is_endless hgu (hr.mono (by decide)) (by rfl) m__law_is_endless F__law_is_endless.kp b__law_is_endless .nil pass0 (pa_cons (pv 0) pa_nil))) pe_str pe_non))))), ?_⟩
    have hW0 := hW
    obtain ⟨O, n4, ml, am, ae, gs, h1, h2, h3, h4⟩ := hW
    refine ⟨_, rfl, _, _, rfl, rfl, _, rfl, ?_⟩
    by_cases neg : i < 0
    · refine ifT (decide_eq_true neg) ?_
      have e : dueN n ms es b i = .no := by
        unfold dueN
        rw [if_neg (by omega)]
      rw [e] at q
      exact q _ (Same.refl _)
    refine ifF (decide_eq_false neg) ?_
    obtain ⟨i0, rfl⟩ : ∃ i0 : Nat, i = (i0 : Int) := ⟨i.toNat, by omega⟩
    clear neg
    obtain ⟨qs, g1, g2, g3⟩ := hR
    rw [List.length_map, List.length_range] at g2
    have g3 : ∀ (k : Nat) (c : Addr), qs[k]? = some c → H c = some (.lst (natsV (cAt n ms es k))) := fun k c e => by
      have z := g3 k c e
      have hi := (List.getElem?_eq_some_iff.mp e).1
      rw [List.getD_eq_getElem?_getD, List.getElem?_map, List.getElem?_range (by omega)] at z
      exact z
    refine ⟨_, rfl, pr, _, rfl, SqL.of g1, ?_⟩
    refine for_it (walk_enum (K := K) (a := pr) (xs := qs.map V.ref)) (fun l σ HI => ∃ (ri : Nat) (y3 y4 y5 y6 y7 y8 y9 y10 y11 : Option V), σ = [some (.ref r), some (.int (ri : Nat)), some (.ref pr), y3, y4, y5, y6, y7, y8, y9, y10, y11, none] ∧ Same H HI ∧ placeN (cnt0 n ms es) (201 - l) l ri = placeN (cnt0 n ms es) 201 0 i0)
      ⟨i0, none, none, none, none, none, none, none, none, none, rfl, Same.refl _, rfl⟩ (fun l σ HI _ h => by obtain ⟨_, _, _, _, _, _, _, _, _, _, _, h, _⟩ := h; exact SqL.of (h _ _ g1)) ?_ ?_
    · rintro l x σ H2 H3 hl ⟨ri, y3, y4, y5, y6, y7, y8, y9, y10, y11, rfl, s2, hp⟩ ⟨T2, x1, x2, rfl, nT2, rfl, e1, e2⟩
      dsimp only at e1 e2
      obtain rfl := Option.some.inj e1
      rw [List.length_map, g2] at hl
      rw [List.getElem?_map] at e2
      obtain ⟨c, hc, rfl⟩ := Option.map_eq_some_iff.mp e2
      have s6 := same_new (o := .tup [V.int ((l : Nat) : Int), V.ref c]) nT2
      have s3 := s2.trans s6
      have hT2 : upd H2 T2 (.tup [V.int ((l : Nat) : Int), V.ref c]) T2 = some (.tup [V.int ((l : Nat) : Int), V.ref c]) := upd_same
      generalize upd H2 T2 (.tup [V.int ((l : Nat) : Int), V.ref c]) = H3 at s6 s3 hT2 ⊢
      have hrow := s3 _ _ (g3 l c hc)
      obtain ⟨k, ek⟩ : ∃ k, 201 - l = k + 1 := ⟨200 - l, by omega⟩
      rw [ek, placeN] at hp
      refine ⟨T2, _, rfl, .inl (.inl hT2), rfl, _, _, rfl, _, _, rfl, rfl, ?_⟩
      refine ⟨_, rfl, _, rfl, c, _, 0, _, rfl, rfl, SqL.of hrow, atI_nat (j := 0) (cAt_get O.n0), _, _, rfl, rfl, _, rfl, ?_⟩
      by_cases lt : ri < cnt0 n ms es l
      case neg =>
        rw [if_neg lt] at hp
        refine ifF (decide_eq_false (by unfold cnt0 at lt; omega)) ?_
        refine ⟨_, rfl, _, rfl, c, _, 0, _, rfl, rfl, SqL.of hrow, atI_nat (j := 0) (cAt_get O.n0), _, _, rfl, rfl, ?_⟩
        refine ⟨ri - cnt0 n ms es l, some (.int (l : Nat)), some (.ref c), y5, y6, y7, y8, y9, y10, y11, ?_, s3, ?_⟩
        · rw [show ((ri - cnt0 n ms es l : Nat) : Int) = (ri : Int) - (cnt0 n ms es l : Nat) by omega]
          rfl
        · rw [show 201 - (l + 1) = k by omega]
          exact hp
      rw [if_pos lt] at hp
      rw [dueN_some hp.symm] at q
      refine ifT (decide_eq_true (by unfold cnt0 at lt; omega)) ?_
      refine ⟨by show 2 ≤ sizeLine; decide, fun T3 nT3 => ?_⟩
      have s4 := s3.trans (same_new (o := .tup [V.str (Str.ofString ""), V.int 0]) nT3)
      have hT3 : upd H3 T3 (.tup [V.str (Str.ofString ""), V.int 0]) T3 = some (.tup [V.str (Str.ofString ""), V.int 0]) := upd_same
      generalize upd H3 T3 (.tup [V.str (Str.ofString ""), V.int 0]) = H4 at s4 hT3 ⊢
      refine ⟨T3, _, rfl, .inl (.inl hT3), rfl, _, _, rfl, _, _, rfl, rfl, ?_⟩
      refine ⟨_, rfl, l, rfl, by omega, by omega, ?_⟩
      rw [Int.toNat_natCast]
      refine for_it (walk_range (lo := 0) (n := l)) (fun j σ HI => ∃ (t idx : Nat) (cs : List Nat) (y7 y8 y9 y10 y11 : Option V), σ = [some (.ref r), some (.int (idx : Nat)), some (.ref pr), some (.int (l : Nat)), some (.ref c), some (.str (S cs)), some (.int (t : Nat)), y7, y8, y9, y10, y11, none] ∧ Same H HI ∧ t < n ∧ idx < (cAt n ms es (l - j)).getD t 0 ∧ cs ++ wordN n ms es t (l - j) idx = wordN n ms es 0 l ri ∧ cs.length = j)
        ⟨0, ri, [], _, _, _, _, _, rfl, s4, O.n0, lt, rfl, rfl⟩ (fun _ _ _ _ _ => trivial) ?_ ?_
      · rintro j x σ H5' H5 hj ⟨t, idx, cs, y7, y8, y9, y10, y11, rfl, s5, ht, hidx, hw, cl⟩ ⟨rfl, hx⟩
        obtain rfl : x = V.int (j : Int) := by
          rw [hx]
          show V.int (0 + (j : Int)) = _
          rw [Int.zero_add]
        obtain ⟨k2, ek2⟩ : ∃ k2, l = j + (k2 + 1) := ⟨l - (j + 1), by omega⟩
        rw [show l - j = k2 + 1 by omega] at hidx hw
        obtain ⟨ps, hT, lps, hms⟩ := h2.same s5
        refine ⟨_, rfl, r, _, rfl, gMoves (s5 _ _ h1), am, rfl, ⟨_, hT⟩, fun D nD => ?_⟩
        refine lc_it (walk_tup (K := K) (a := am) (xs := ps.map V.ref)) (fun i2 HJ => ∃ us : List Addr, Same H5 HJ ∧ HJ D = some (.lst (us.map V.ref)) ∧ PrM K HJ us t (prw (ms.take i2) t)) ⟨[], same_new nD, upd_same, rfl, fun k u e => nomatch e⟩ (fun i2 HJ _ h => by obtain ⟨_, h, _⟩ := h; exact sameT h hT) ?_ ?_
        · rintro i2 x H8 H9 hi2 ⟨us, s8, h8, lv⟩ ⟨rfl, hx⟩
          rw [List.length_map, lps] at hi2
          rw [List.getElem?_map] at hx
          obtain ⟨p, hp, rfl⟩ := Option.map_eq_some_iff.mp hx
          obtain ⟨m, gm, am2⟩ := hms i2 p hp
          have em : prw (ms.take (i2 + 1)) t = prw (ms.take i2) t ++ (if m.1 = t then [m.2] else []) := by
            unfold prw
            rw [List.take_add_one, gm, List.filter_append, List.map_append]
            by_cases e : m.1 = t
            · simp [e]
            · simp [e]
          refine ⟨wipe1 _ _ _, ?_⟩
          refine ⟨_, rfl, p, _, 0, _, rfl, rfl, sameT s8 am2, atI_nat (j := 0) rfl, _, rfl, rfl, _, rfl, ?_⟩
          rw [em]
          by_cases e : m.1 = t
          case neg =>
            refine ifF (decide_eq_false fun y => e (by injection y with y; omega)) ⟨us, s8, h8, ?_⟩
            rw [if_neg e, List.append_nil]
            exact lv
          subst e
          refine ifT (decide_eq_true rfl) ?_
          rw [if_pos rfl]
          have vl := lv.1
          have vb : (prw (ms.take i2) m.1).length ≤ 1000 := by
            unfold prw
            rw [List.length_map]
            exact Nat.le_trans (List.length_filter_le _ _) (by rw [List.length_take]; omega)
          refine ⟨_, rfl, _, h8, Nat.lt_of_lt_of_le (show (us.map V.ref).length < 5000 by rw [List.length_map]; omega) (by decide), us ++ [p], same_upd_of s8 nD, ?_, ?_⟩
          · rw [upd_same, List.map_append]
            rfl
          · refine ⟨by rw [List.length_append, List.length_append, lv.1]; rfl, fun k u e => ?_⟩
            by_cases hk : k < us.length
            · rw [List.getElem?_append_left hk] at e
              obtain ⟨p2, f1, f2⟩ := lv.2 k u e
              exact ⟨p2, by rw [List.getElem?_append_left (by rw [← lv.1]; exact hk)]; exact f1, sqT_upd h8 f2⟩
            · have h2 := (List.getElem?_eq_some_iff.mp e).1
              rw [List.length_append, List.length_singleton] at h2
              have e1 : k = us.length := by omega
              subst e1
              rw [List.getElem?_concat_length] at e
              obtain rfl := Option.some.inj e
              exact ⟨_, by rw [lv.1, List.getElem?_concat_length], sqT_upd h8 (sameT s8 am2)⟩
        rintro H8 ⟨us, s8, h8, lv⟩
        rw [List.length_map, lps, List.take_length] at lv
        have s58 := s5.trans s8
        have wl : (wts n ms es t k2).length = (prw ms t).length := by unfold wts; rw [List.length_map]
        rw [← wts_sum (fun m hm => (O.ok m hm).1) ht] at hidx
        have pw8 : (prw ms t).length ≤ 1000 := prw_len O
        refine ⟨D, rfl, ⟨_, SqL.of h8⟩, ?_⟩
        refine for_it (walk_list (K := K) (a := D) (xs := us.map V.ref)) (fun p σ HI => ∃ (rr : Nat) (y8 y9 y10 y11 : Option V), σ = [some (.ref r), some (.int (rr : Nat)), some (.ref pr), some (.int (l : Nat)), some (.ref c), some (.str (S cs)), some (.int (t : Nat)), some (.int (j : Nat)), y8, y9, y10, y11, none] ∧ Same H8 HI ∧ idx = ((wts n ms es t k2).take p).sum + rr)
          ⟨idx, _, _, _, _, rfl, Same.refl _, by simp⟩ (fun p σ HI _ h => by obtain ⟨_, _, _, _, _, _, h, _⟩ := h; exact SqL.of (h _ _ h8)) ?_ ?_
        · rintro p x σ H9 H10 hp ⟨rr, y8, y9, y10, y11, rfl, s9, hr2⟩ ⟨rfl, hx⟩
          rw [List.length_map, lv.1] at hp
          rw [List.getElem?_map] at hx
          obtain ⟨u, hu, rfl⟩ := Option.map_eq_some_iff.mp hx
          obtain ⟨pp, f1, f2⟩ := lv.2 p u hu
          have op := prw_ok O pp (List.mem_of_getElem? f1)
          have ew : (wts n ms es t k2).getD p 0 = (cAt n ms es k2).getD pp.2 0 := by
            unfold wts
            rw [List.getD_eq_getElem?_getD, List.getElem?_map, f1]
            rfl
          have es3 : ((wts n ms es t k2).take (p + 1)).sum = ((wts n ms es t k2).take p).sum + (wts n ms es t k2).getD p 0 := by rw [take_get (by omega), List.sum_append]; simp
          refine ⟨u, _, rfl, sameT s9 f2, rfl, _, _, rfl, _, _, rfl, _, _, rfl, rfl, ?_⟩
          obtain ⟨q2, hq2⟩ : ∃ q2, qs[k2]? = some q2 := ⟨qs[k2]'(by omega), List.getElem?_eq_getElem _⟩
          have hr4 := (s58.trans s9) _ _ (g3 k2 q2 hq2)
          refine ⟨_, rfl, _, rfl, _, rfl, _, _, rfl, rfl, _, _, rfl, rfl, pr, _, k2, .ref q2, rfl, ?_, SqL.of ((s58.trans s9) _ _ g1), atI_nat (by rw [List.getElem?_map, hq2]; rfl), _, rfl, q2, _, _, _, rfl, rfl, SqL.of hr4, atI_nat (cAt_get op.1), ?_⟩
          · exact congrArg V.int (by omega)
          refine ⟨_, rfl, _, rfl, _, _, rfl, rfl, _, rfl, ?_⟩
          by_cases ge : (cAt n ms es k2).getD pp.2 0 ≤ rr
          · refine ifT (decide_eq_true (by omega)) ?_
            refine ⟨_, rfl, _, rfl, _, _, rfl, rfl, rr - (cAt n ms es k2).getD pp.2 0, some (.int (t : Nat)), some (.str (sgn pp.1)), some (.int (pp.2 : Nat)), some (.int ((cAt n ms es k2).getD pp.2 0 : Nat)), ?_, s9, ?_⟩
            · rw [show ((rr - (cAt n ms es k2).getD pp.2 0 : Nat) : Int) = (rr : Int) - ((cAt n ms es k2).getD pp.2 0 : Nat) by omega]
              rfl
            · rw [es3, ew]
              omega
          · refine ifF (decide_eq_false (by omega)) ?_
            have eg := gre_is _ p idx rr (by omega) hr2 (by omega)
            rw [wordN, eg] at hw
            dsimp only at hw
            have ed : (prw ms t).getD p (0, 0) = pp := by rw [List.getD_eq_getElem?_getD, f1]; rfl
            rw [ed] at hw
            have ecs : S cs ++ sgn pp.1 = S (cs ++ [pp.1]) := by
              show (⟨cs.toArray ++ #[pp.1]⟩ : Str) = ⟨(cs ++ [pp.1]).toArray⟩
              exact congrArg Str.mk (by simp)
            refine ⟨_, rfl, _, rfl, _, _, rfl, rfl, ?_, _, rfl, by show 2 ≤ sizeLine; decide, fun T4 nT4 => ?_⟩
            · refine Nat.le_trans (show (S cs).length + (sgn pp.1).length ≤ 1000 from ?_) (by decide)
              show cs.toArray.size + 1 ≤ 1000
              rw [List.size_toArray]
              omega
            rw [ecs]
            have s10 := s9.trans (same_new (o := .tup [V.str (S (cs ++ [pp.1])), V.int (pp.2 : Int)]) nT4)
            have hT4 : upd H10 T4 (.tup [V.str (S (cs ++ [pp.1])), V.int (pp.2 : Int)]) T4 = some (.tup [V.str (S (cs ++ [pp.1])), V.int (pp.2 : Int)]) := upd_same
            generalize upd H10 T4 (.tup [V.str (S (cs ++ [pp.1])), V.int (pp.2 : Int)]) = H11 at s10 hT4 ⊢
            refine ⟨T4, _, rfl, .inl (.inl hT4), rfl, _, _, rfl, _, _, rfl, rfl, ?_⟩
            refine ⟨pp.2, rr, cs ++ [pp.1], _, _, _, _, _, rfl, s58.trans s10, op.1, ?_, ?_, by rw [List.length_append, cl]; rfl⟩
            · rw [show l - (j + 1) = k2 by omega]
              omega
            · rw [show l - (j + 1) = k2 by omega, ← hw, List.append_assoc]
              rfl
        rintro σ H9 ⟨rr, y8, y9, y10, y11, rfl, s9, hr2⟩
        rw [List.length_map, lv.1, ← wl, List.take_length] at hr2
        exfalso
        omega
      rintro σ H5 ⟨t, idx, cs, y7, y8, y9, y10, y11, rfl, s5, ht, hidx, hw, cl⟩
      rw [Nat.sub_self, wordN, List.append_nil] at hw
      rw [← hw] at q
      exact ⟨_, rfl, q H5 s5⟩
    rintro σ H2 ⟨ri, y3, y4, y5, y6, y7, y8, y9, y10, y11, rfl, s2, hp⟩
    rw [List.length_map, g2, Nat.sub_self, placeN] at hp
    rw [dueN_none hp.symm] at q
    refine ⟨_, rfl, r, n, ms, es, b, rfl, hW0.same s2, hb, fun H3 s3 => ?_⟩
    cases b with
    | true => exact ⟨_, rfl, q _ (s2.trans s3)⟩
    | false => exact ⟨_, rfl, q _ (s2.trans s3)⟩
end
end SG

/-! What is heard, what must be. -/
namespace SG
open PySem PySem.Spec PyProof PyProof.Rows L2
open SX (S S_tl S_len)
local macro_rules
  | `(tactic| clean_wf) => `(tactic| repeat (first | refine ⟨_, rfl, ?_⟩ | refine ⟨rfl, ?_⟩ | refine ⟨_, _, rfl, ?_⟩ | refine ⟨_, _, rfl, rfl, ?_⟩ | refine ⟨_, _, _, rfl, ?_⟩ | refine ⟨_, _, _, _, rfl, ?_⟩))
local macro_rules
  | `(tactic| exists $u:ident, $n:ident, $H:ident, $q:ident, $e:ident) => `(tactic| (refine ⟨by first | exact Nat.zero_le _ | assumption | (simp only [List.length_cons, List.length_nil]; decide), fun $u $n => ?_⟩; generalize hh : upd _ $u _ = $H; obtain ⟨$q, $e⟩ := mkq $n hh; clear hh))
local macro_rules
  | `(tactic| simp_wf) => `(tactic| first | assumption | exact upd_same | (refine (by assumption : Same _ _) _ _ ?_; simp_wf) | (refine (by assumption : Kept _ _ _ _) _ _ ?_ (by assumption) (by assumption); simp_wf))
local macro_rules
  | `(tactic| decreasing_trivial) => `(tactic| first | assumption | exact .inl (.inl (by assumption)) | (refine sameT (by assumption) ?_; decreasing_trivial))
local macro_rules
  | `(tactic| array_get_dec) => `(tactic| first | assumption | (refine CdAt.same (by assumption) ?_; array_get_dec))
theorem shaped_S {l : List Nat} (h : lettersB l = true) : SeqAt.shaped (.str (S l)) = true := by
  have z : PyData.strOk (S l) = true := by
    unfold PyData.strOk
    show l.toArray.all _ = true
    rw [List.all_toArray', List.all_eq_true] <;> first | rfl | skip
    intro g hg
    have y := List.all_eq_true.mp h g hg
    unfold isLetN at y
    rw [Bool.and_eq_true, decide_eq_true_eq, decide_eq_true_eq] at y
    exact decide_eq_true (by omega)
  show (PyData.strOk (S l) && _) = true
  rw [z]
  rfl
/-- what is told -/
def DueAt (K : PySem.W.Frag) (H : Hp) (x : V) : Due → Prop
  | .no => x = .non
  | .wd l => x = .str (S l)
  | .long => ∃ p, x = .ref p ∧ SqL K H p [.str "long", .int 200]
section
variable {P : Program} {w : World} {K : PySem.W.Frag} {mg : Str → Option Value} {base : Heap} {Z : Ads}
def spDue (K : PySem.W.Frag) : Sp := fun vs H Q _ => ∃ (r pr : Addr) (n : Nat) (ms : List Mv) (es : List Nat) (b : Bool) (i : Int), vs = [.ref r, .int i, .ref pr] ∧ WAt K H r n ms es ∧ RowsAt H pr ((List.range 201).map (cAt n ms es)) ∧ EndN n ms es b ∧ ∀ x H2, Same H H2 → DueAt K H2 x (dueN n ms es b i) → Q x H2
theorem ok_due {f f1 : Addr} {fd fd1 : FuncData} (F : Fun K "_law_due" "_law_due" s__law_due f fd) (F__law_at : Fun K "_law_at" "_law_at" s__law_at f1 fd1) (m__law_at : mg "_law_at" = some (.ref f1)) (b__law_at : Binds K fd1 ["_law_w", "_law_number", "_law_rows"] []) (G__law_at : GFn P w K mg base CX0 3 f1 fd1 ["_law_w", "_law_number", "_law_rows"] (spLAt K)) (T : Txt mg) : GFn P w K mg base CX0 4 f fd ["_law_w", "_law_number", "_law_rows"] (spDue K) := by
  refine gfun_ok F sc__law_due (fun vs H Q E h => ?_) (fun cdv A outer s H vs Q E hgu hr h => ?_)
  · obtain ⟨r, pr, n, ms, es, b, i, rfl, _⟩ := h
    rfl
  · obtain ⟨r, pr, n, ms, es, b, i, rfl, hW, hR, hb, q⟩ := h
    have nd := sc__law_due.nd
    refine ⟨_, (pss_cons (ps_set (i := 3) nd rfl (Or.inl rfl) (pe_g G__law_at hgu (hr.mono (by decide)) (by rfl) m__law_at F__law_at.kp b__law_at .nil pass0 (pa_cons (pv 0) (pa_cons (pv 1) (pa_cons (pv 2) pa_nil)))))
      (pss_one (ps_ret (pe_ifExp (pt_cmpR (k_eqD (K := K) hr.units) (pv 3) pe_str (nomark _)) (pe_lst (pa_cons pe_str (pa_cons pe_int pa_nil))) (pv 3))))), ?_⟩
    refine ⟨_, rfl, _, rfl, _, rfl, r, pr, n, ms, es, b, i, rfl, hW, hR, hb, fun H1 s1 => ⟨_, rfl, ?_⟩⟩
    have O := hW.1
    cases e : dueN n ms es b i with
    | no =>
      rw [e] at q
      refine ⟨.none, .str "LONG", .non, .str _, rfl, by decide +kernel, _, rfl, ifF rfl ⟨_, rfl, q _ _ s1 rfl⟩⟩
    | wd l =>
      rw [e] at q
      obtain ⟨_, hw, _⟩ := due_wd O e
      have ne := not_long (has_letters O hw)
      have ev : PyData.eqv (.str (S l)) (.str (Str.ofString "LONG")) = false := by
        show (S l == Str.ofString "LONG") = false
        rw [beq_eq_false_iff_ne]
        exact fun z => ne z.symm
      refine ⟨.str (S l), .str "LONG", .str _, .str _, shaped_S (has_letters O hw), by decide +kernel, ?_⟩
      rw [ev]
      exact ⟨_, rfl, ifF rfl ⟨_, rfl, q _ _ s1 rfl⟩⟩
    | long =>
      rw [e] at q
      have ev : PyData.eqv (.str (Str.ofString "LONG")) (.str (Str.ofString "LONG")) = true := by
        show (Str.ofString "LONG" == Str.ofString "LONG") = true
        exact beq_self_eq_true _
      refine ⟨.str "LONG", .str "LONG", .str _, .str _, by decide +kernel, by decide +kernel, ?_⟩
      rw [ev]
      refine ⟨_, rfl, ifT rfl ?_⟩
      exact ⟨by show 2 ≤ sizeLine; decide, fun p np => q _ _ (s1.trans (same_new np)) ⟨p, rfl, SqL.of upd_same⟩⟩
theorem st_due {f : Addr} {n : Nat} {ms : List Mv} {es : List Nat} {z : Str} {by_ : Int} {b : Bool} {H : Hp} {Q : VK} {E : XK} (hF : FmAt K Z.cF H f n ms es) (n4 : n ≤ 4) (hz : z.length ≤ 900) (hw : hasW ms es z.cps.toList = true) (hb : EndN n ms es b)
    (q1 : dueN n ms es b ((ahdN n ms es z.cps.toList : Nat) + by_) = .no → ∀ H2, Same H H2 → Q .non H2)
    (q2 : ∀ l, dueN n ms es b ((ahdN n ms es z.cps.toList : Nat) + by_) = .wd l → ∀ H2, Same H H2 → Q (.str (S l)) H2)
    (q3 : dueN n ms es b ((ahdN n ms es z.cps.toList : Nat) + by_) = .long → ∀ H2 d, Same H H2 → H2 d = some (.xd [("most", .int 200)]) → E (.ref Z.cT) (some d) H2) : spSt K Z [.ref f, .str z, .int by_] H Q E := by
  refine ⟨f, n, ms, es, z, by_, rfl, hF, by omega, hz, fun e => ?_, fun _ b2 hb2 => ?_⟩
  · rw [hw] at e
    exact Bool.noConfusion e
  · have O := hF.1
    obtain rfl := endN_one hb (endless_iff O hb2)
    exact ⟨fun e => q1 (due_out O (by omega) hb e), fun e l r e2 => q2 _ (due_in e e2), fun e e2 => q3 (due_long O (by omega) hb e e2)⟩
theorem st_not {f : Addr} {n : Nat} {ms : List Mv} {es : List Nat} {z : Str} {by_ : Int} {H : Hp} {Q : VK} {E : XK} (hF : FmAt K Z.cF H f n ms es) (n4 : n ≤ 4) (hz : z.length ≤ 900) (hw : hasW ms es z.cps.toList = false)
    (q : ∀ H2 d, Same H H2 → H2 d = some (.xd [("word", .str z)]) → E (.ref Z.cN) (some d) H2) : spSt K Z [.ref f, .str z, .int by_] H Q E := by
  refine ⟨f, n, ms, es, z, by_, rfl, hF, by omega, hz, fun _ => q, fun e => ?_⟩
  rw [hw] at e
  exact Bool.noConfusion e
def spHeard (K : PySem.W.Frag) (Z : Ads) : Sp := fun vs H Q _ => ∃ (f : Addr) (n : Nat) (ms : List Mv) (es : List Nat) (z : Str) (by_ : Int) (b : Bool), vs = [.ref f, .str z, .int by_] ∧ FmAt K Z.cF H f n ms es ∧ n ≤ 4 ∧ z.length ≤ 900 ∧ EndN n ms es b ∧
  (hasW ms es z.cps.toList = false → ∀ p H2, Same H H2 → H2 p = some (.lst [.str "none", .str z]) → Q (.ref p) H2) ∧
  (hasW ms es z.cps.toList = true → ∀ x H2, Same H H2 → DueAt K H2 x (dueN n ms es b ((ahdN n ms es z.cps.toList : Nat) + by_)) → Q x H2)
theorem ok_heard {f f1 : Addr} {fd fd1 : FuncData} (F : Fun K "_law_heard" "_law_heard" s__law_heard f fd) (U : Own K mg Z) (F_step : Fun K "step" "step" s_step f1 fd1) (m_step : mg "step" = some (.ref f1)) (b_step : Binds K fd1 ["form", "word", "by"] []) (G_step : FnOk P w K mg base (L2.CX P w) 9 f1 fd1 ["form", "word", "by"] (spSt K Z)) (T : Txt mg) :
    GFn P w K mg base CX0 10 f fd ["_law_code_here", "_law_word", "_law_by"] (spHeard K Z) := by
  refine gfun_ok F sc__law_heard (fun vs H Q E h => ?_) (fun cdv A outer s H vs Q E hgu hr h => ?_)
  · obtain ⟨f, n, ms, es, z, by_, b, rfl, _⟩ := h
    rfl
  · obtain ⟨f, n, ms, es, z, by_, b, rfl, hF, n4, hz, hb, qN, qD⟩ := h
    have nd := sc__law_heard.nd
    refine ⟨_, (pss_cons (ps_set (i := 3) nd rfl (Or.inl rfl) pe_non)
      (pss_cons (ps_try_asM (i := 4) rfl rfl nd rfl rfl takes0 (fun W pn xe tk _ => (pss_one (ps_set (i := 3) nd rfl (Or.inl rfl) (pe_callS G_step (hr.mono (by decide)) (by rfl) m_step F_step.kp b_step (fun σ => passAt tk σ) (pa_cons (pv 0) (pa_cons (pv 1) (pa_cons (pv 2) pa_nil)))))))
        (.cons (by refine ⟨by rfl, by decide, .inl U.mTooLong⟩) (fun a oe cls d pn hz hf => (pss_one (ps_set (i := 3) nd rfl (Or.inl rfl) (pe_lst (pa_cons pe_str (pa_cons (pe_xf U.rTooLong U.nMost hz hf (pv 4)) pa_nil)))))) (.cons (by refine ⟨by rfl, by decide, .inl U.mNotIn⟩) (fun a oe cls d pn hz hf => (pss_one (ps_set (i := 3) nd rfl (Or.inl rfl) (pe_lst (pa_cons pe_str (pa_cons (pe_xf U.rNotIn U.nWord hz hf (pv 4)) pa_nil)))))) .nil)))
      (pss_one (ps_ret (pv 3))))), ?_⟩
    refine ⟨_, rfl, _, rfl, _, rfl, ?_⟩
    unfold tNil
    dsimp only
    cases hw : hasW ms es z.cps.toList with
    | false =>
      refine st_not hF n4 hz hw fun H2 d s2 hd => ?_
      refine ⟨false, U.eNT, fun e => Bool.noConfusion e, fun _ => ⟨true, U.eNN, fun _ a na => ?_, fun e => Bool.noConfusion e⟩⟩
      refine ⟨_, rfl, rfl, rfl, d, _, _, rfl, hd, rfl, by show 2 ≤ sizeLine; decide, fun p np => ?_⟩
      exact ⟨_, rfl, qN hw p _ (s2.trans (same_new np)) upd_same⟩
    | true =>
      have qD := qD hw
      refine st_due hF n4 hz hw hb (fun e H2 s2 => ?_) (fun l e H2 s2 => ?_) (fun e H2 d s2 hd => ?_)
      · rw [e] at qD
        exact ⟨_, rfl, qD _ _ s2 rfl⟩
      · rw [e] at qD
        exact ⟨_, rfl, qD _ _ s2 rfl⟩
      · rw [e] at qD
        refine ⟨true, U.eTT, fun _ a na => ?_, fun e => Bool.noConfusion e⟩
        refine ⟨_, rfl, rfl, rfl, d, _, _, rfl, hd, rfl, by show 2 ≤ sizeLine; decide, fun p np => ?_⟩
        exact ⟨_, rfl, qD _ _ (s2.trans (same_new np)) ⟨p, rfl, SqL.of upd_same⟩⟩
end
end SG

/-! What is asked of a form. -/
namespace SG
open PySem PySem.Spec PyProof PyProof.Rows L2
open SX (S S_tl S_len)
local macro_rules
  | `(tactic| clean_wf) => `(tactic| repeat (first | refine ⟨_, rfl, ?_⟩ | refine ⟨rfl, ?_⟩ | refine ⟨_, _, rfl, ?_⟩ | refine ⟨_, _, rfl, rfl, ?_⟩ | refine ⟨_, _, _, rfl, ?_⟩ | refine ⟨_, _, _, _, rfl, ?_⟩))
local macro_rules
  | `(tactic| exists $u:ident, $n:ident, $H:ident, $q:ident, $e:ident) => `(tactic| (refine ⟨by first | exact Nat.zero_le _ | assumption | (simp only [List.length_cons, List.length_nil]; decide), fun $u $n => ?_⟩; generalize hh : upd _ $u _ = $H; obtain ⟨$q, $e⟩ := mkq $n hh; clear hh))
local macro_rules
  | `(tactic| simp_wf) => `(tactic| first | assumption | exact upd_same | (refine (by assumption : Same _ _) _ _ ?_; simp_wf) | (refine (by assumption : Kept _ _ _ _) _ _ ?_ (by assumption) (by assumption); simp_wf))
local macro_rules
  | `(tactic| decreasing_trivial) => `(tactic| first | assumption | exact .inl (.inl (by assumption)) | (refine sameT (by assumption) ?_; decreasing_trivial))
local macro_rules
  | `(tactic| array_get_dec) => `(tactic| first | assumption | (refine CdAt.same (by assumption) ?_; array_get_dec))
theorem in_opt (es : List Nat) (o : Option Nat) : (!inV (optV o) (natsV es)) = !isEndO es o := by
  cases o with
  | none =>
    have : inV .non (natsV es) = false := by
      unfold inV natsV
      induction es with
      | nil => rfl
      | cons a l ih =>
        rw [List.map_cons, List.any_cons, ih]
        rfl
    show (!inV .non (natsV es)) = _
    rw [this]
    rfl
  | some s =>
    show (!inV (.int (s : Int)) (natsV es)) = _
    rw [in_nats]
    rfl
theorem flat_opt (o : Option Nat) : flatV (optV o) = true := by cases o <;> rfl
def dueD : Due → PyData
  | .no => .none
  | .wd l => .str (S l)
  | .long => .list [.str "long", .int 200]
section
variable {P : Program} {w : World} {K : PySem.W.Frag} {mg : Str → Option Value} {base : Heap} {Z : Ads}
theorem letters_short {l : List Nat} (h : ∀ g ∈ l, g ≤ 122) : (l.all fun c => decide (c < 16 ^ 8)) = true := by
  rw [List.all_eq_true]
  intro g hg
  have := h g hg
  exact decide_eq_true (by omega)
theorem letters_le {l : List Nat} (h : lettersB l = true) : ∀ g ∈ l, g ≤ 122 := by
  intro g hg
  have y := List.all_eq_true.mp h g hg
  unfold isLetN at y
  rw [Bool.and_eq_true, decide_eq_true_eq, decide_eq_true_eq] at y
  exact y.2
theorem rep_due {H : Hp} {x : V} {due : Due} {Q : VK} (h : DueAt K H x due) (ok : ∀ l, due = .wd l → lettersB l = true ∧ l.length ≤ 200) (q : Q (.str (dueD due).shown) H) : rReprX K [x] H Q := by
  cases due with
  | no =>
    obtain rfl : x = .non := h
    exact ⟨_, _, rfl, .non, rfl, by decide, by decide +kernel, q⟩
  | wd l =>
    obtain rfl : x = .str (S l) := h
    obtain ⟨o1, o2⟩ := ok l rfl
    refine ⟨_, _, rfl, .str _, rfl, by simp [PyData.depth], ?_, q⟩
    have z := PyData.shown_le_bulk 70 (by decide) (.str (S l)) (letters_short (letters_le o1))
    have y : (PyData.str (S l)).bulk = l.length := S_len l
    have : sizeLine = 16777216 := by decide
    omega
  | long =>
    obtain ⟨p, rfl, hp⟩ := h
    exact ⟨_, _, rfl, dx_dp (.lst hp (.cons (.str _) (.cons (.int _) .nil))), by decide +kernel, by decide +kernel, by decide +kernel, q⟩
theorem rep_none {H : Hp} {p : Addr} {gs : List Nat} {Q : VK} (h : H p = some (.lst [.str "none", .str (S gs)])) (ok : ∀ g ∈ gs, g ≤ 122) (hl : gs.length ≤ 200) (q : Q (.str (PyData.list [.str "none", .str (S gs)]).shown) H) : rReprX K [.ref p] H Q := by
  refine ⟨_, _, rfl, dx_dp (.lst (SqL.of h) (.cons (.str _) (.cons (.str _) .nil))), rfl, by simp [PyData.depth, PyData.depthAll], ?_, q⟩
  have z := PyData.shown_le_bulk 70 (by decide) (.list [.str "none", .str (S gs)]) (by
    show ((Str.ofString "none").cps.toList.all (fun c => decide (c < 16 ^ 8)) && ((S gs).cps.toList.all (fun c => decide (c < 16 ^ 8)) && true)) = true
    rw [show ((S gs).cps.toList.all (fun c => decide (c < 16 ^ 8))) = true from letters_short ok]
    decide +kernel)
  have y : (PyData.list [.str "none", .str (S gs)]).bulk ≤ 210 := by
    have e1 : (S gs).cps.size = gs.length := S_len gs
    have e2 : (Str.ofString "none").cps.size = 4 := by decide +kernel
    have e3 : gs.toArray.size = gs.length := by simp
    simp only [PyData.bulk, PyData.bulkAll]
    omega
  have : sizeLine = 16777216 := by decide
  omega
theorem ne_self (s : Str) : V.bl (!decide (V.str s = V.str s)) = V.bl false := by simp
/-- a format stays when the deck is asked -/
theorem FmAt.kept {C : Addr} {d l : Addr} {c : Nat} {H H2 : Hp} {a : Addr} {n : Nat} {ms : List Mv} {es : List Nat} (k : Kept d l H H2) (D : Dek H d l c) (h : FmAt K C H a n ms es) : FmAt K C H2 a n ms es := by
  obtain ⟨O, dx, am, ae, de, fs, h1, h2, h3, h4, h5, ⟨ps, g1, g2, g3⟩, h7, h8, ⟨dg, au, us, kvs, x1, x2, x3, x4, x5, x6⟩, h9⟩ := h
  have D0 := D
  obtain ⟨cs, m, t, hd, hl, _⟩ := D0
  refine ⟨O, dx, am, ae, de, fs, k _ _ h1 (ne_of h1 hd nofun) (ne_of h1 hl nofun), h2, h3, h4, h5, ⟨ps, k.tupG D g1, g2, fun i p e => ?_⟩, k.tupG D h7, k _ _ h8 (fun z => ?_) (ne_of h8 hl nofun), ⟨dg, au, us, kvs, x1, x2, k _ _ x3 (ne_of x3 hd nofun) (ne_of x3 hl nofun), x4, k.tupG D x5, x6⟩, h9⟩
  · obtain ⟨m, e1, e2⟩ := g3 i p e
    exact ⟨m, e1, k.tupG D e2⟩
  · rw [z, hd] at h8
    have h8 := Option.some.inj h8
    injection h8 with h8
    cases es with
    | nil => exact nomatch h8
    | cons e es =>
      have := congrArg (fun l : List (Key × V) => l.head?) h8
      injection this with this
      injection this with this _
      exact nomatch this
theorem RowsN.kept {H0 H H2 : Hp} {d l p : Addr} {c : Nat} {rows : List (List Nat)} (D0 : Dek H0 d l c) (np : H0 p = none) (k : Kept d l H H2) (h : RowsN H0 H p rows) : RowsN H0 H2 p rows := by
  obtain ⟨qs, h1, h2, h3, h4⟩ := h
  obtain ⟨pd, pl⟩ := D0.ne np
  refine ⟨qs, k _ _ h1 pd pl, h2, fun i q e => ?_, h4⟩
  obtain ⟨qd, ql⟩ := D0.ne (h4 q (List.mem_of_getElem? e))
  exact k _ _ (h3 i q e) qd ql
/-- what stands while a form is asked -/
structure Rt (K : PySem.W.Frag) (Z : Ads) (H0 : Hp) (d l r a p : Addr) (n : Nat) (ms : List Mv) (es : List Nat) (c0 : Nat) (H : Hp) (c : Nat) : Prop where
  D0 : Dek H0 d l c0
  D : Dek H d l c
  rd : r ≠ d
  w : WAt K H r n ms es
  f : FmAt K Z.cF H a n ms es
  np : H0 p = none
  rows : RowsN H0 H p ((List.range 201).map (cAt n ms es))
section
variable {H0 H H2 : Hp} {d l r a p : Addr} {n : Nat} {ms : List Mv} {es : List Nat} {c0 c c2 : Nat}
theorem RowsN.same {rows : List (List Nat)} (s : Same H H2) (h : RowsN H0 H p rows) : RowsN H0 H2 p rows := by
  obtain ⟨qs, h1, h2, h3, h4⟩ := h
  exact ⟨qs, s _ _ h1, h2, fun i q e => s _ _ (h3 i q e), h4⟩
theorem Rt.same (R : Rt K Z H0 d l r a p n ms es c0 H c) (s : Same H H2) : Rt K Z H0 d l r a p n ms es c0 H2 c := ⟨R.D0, R.D.same s, R.rd, R.w.same s, R.f.same s, R.np, R.rows.same s⟩
theorem Rt.kept (R : Rt K Z H0 d l r a p n ms es c0 H c) (k : Kept d l H H2) (D : Dek H2 d l c2) : Rt K Z H0 d l r a p n ms es c0 H2 c2 := ⟨R.D0, D, R.rd, R.w.kept k R.D R.rd, R.f.kept k R.D, R.np, R.rows.kept R.D0 R.np k⟩
theorem Rt.mono (R : Rt K Z H0 d l r a p n ms es c0 H c) (h : c ≤ c2) : Rt K Z H0 d l r a p n ms es c0 H c2 := ⟨R.D0, R.D.mono h, R.rd, R.w, R.f, R.np, R.rows⟩
end
end
end SG

/-! A form is asked. -/
namespace SG
open PySem PySem.Spec PyProof PyProof.Rows L2
open SX (S S_tl S_len)
local macro_rules
  | `(tactic| clean_wf) => `(tactic| repeat (first | refine ⟨_, rfl, ?_⟩ | refine ⟨rfl, ?_⟩ | refine ⟨_, _, rfl, ?_⟩ | refine ⟨_, _, rfl, rfl, ?_⟩ | refine ⟨_, _, _, rfl, ?_⟩ | refine ⟨_, _, _, _, rfl, ?_⟩))
local macro_rules
  | `(tactic| exists $u:ident, $n:ident, $H:ident, $q:ident, $e:ident) => `(tactic| (refine ⟨by first | exact Nat.zero_le _ | assumption | (simp only [List.length_cons, List.length_nil]; decide), fun $u $n => ?_⟩; generalize hh : upd _ $u _ = $H; obtain ⟨$q, $e⟩ := mkq $n hh; clear hh))
local macro_rules
  | `(tactic| simp_wf) => `(tactic| first | assumption | exact upd_same | (refine (by assumption : Same _ _) _ _ ?_; simp_wf) | (refine (by assumption : Kept _ _ _ _) _ _ ?_ (by assumption) (by assumption); simp_wf))
local macro_rules
  | `(tactic| decreasing_trivial) => `(tactic| first | assumption | exact .inl (.inl (by assumption)) | (refine sameT (by assumption) ?_; decreasing_trivial))
local macro_rules
  | `(tactic| array_get_dec) => `(tactic| first | assumption | (refine CdAt.same (by assumption) ?_; array_get_dec))
theorem signs22 : ∀ {xs : List V}, (∀ x ∈ xs, ∃ g : Nat, x = V.str ⟨#[g]⟩ ∧ g ≤ 122) → ∃ ts : List Nat, xs = (ts.map fun g => (⟨#[g]⟩ : Str)).map V.str ∧ ts.length = xs.length ∧ ∀ g ∈ ts, g ≤ 122
  | [], _ => ⟨[], rfl, rfl, fun g hg => nomatch hg⟩
  | x :: xs, h => by
    obtain ⟨ts, e1, e2, e3⟩ := signs22 (xs := xs) fun y hy => h y (List.mem_cons_of_mem _ hy)
    obtain ⟨g, e4, e5⟩ := h x List.mem_cons_self
    refine ⟨g :: ts, by rw [e4, e1]; rfl, by rw [List.length_cons, List.length_cons, e2], fun y hy => ?_⟩
    rcases List.mem_cons.mp hy with z | z
    · rw [z]; exact e5
    · exact e3 y z
theorem ints_of : ∀ {xs : List V}, (∀ x ∈ xs, ∃ i : Int, x = V.int i) → ∃ is : List Int, xs = is.map V.int
  | [], _ => ⟨[], rfl⟩
  | x :: xs, h => by
    obtain ⟨is, e⟩ := ints_of (xs := xs) fun y hy => h y (List.mem_cons_of_mem _ hy)
    obtain ⟨i, e2⟩ := h x List.mem_cons_self
    exact ⟨i :: is, by rw [e, e2]; rfl⟩
section
variable {P : Program} {w : World} {K : PySem.W.Frag} {mg : Str → Option Value} {base : Heap} {Z : Ads}
def spRight (K : PySem.W.Frag) : Sp := fun vs H Q _ => ∃ (d l r : Addr) (c n : Nat) (ms : List Mv) (es : List Nat), vs = [.ref d, .ref r] ∧ Dek H d l c ∧ c < 800000 ∧ r ≠ d ∧ WAt K H r n ms es ∧ ∀ H2, Q (.bl true) H2
theorem ok_right {f f0 f1 f2 f3 f4 f5 f6 f7 f8 f9 : Addr} {fd fd0 fd1 fd2 fd3 fd4 fd5 fd6 fd7 fd8 fd9 : FuncData} (hdg : base.NoDigits) (F : Fun K "_law_right" "_law_right" s__law_right f fd) (U : Own K mg Z)
    (F_step : Fun K "step" "step" s_step f0 fd0) (m_step : mg "step" = some (.ref f0)) (b_step : Binds K fd0 ["form", "word", "by"] []) (kb_step_by_word_form : KBinds K fd0 ["form", "word", "by"] ["by", "word", "form"] kwThree kwThree)
    (G_step : FnOk P w K mg base (L2.CX P w) 9 f0 fd0 ["form", "word", "by"] (spSt K Z))
    (F__law_code : Fun K "_law_code" "_law_code" s__law_code f1 fd1) (m__law_code : mg "_law_code" = some (.ref f1)) (b__law_code : Binds K fd1 ["_law_w"] []) (G__law_code : GFn P w K mg base CX0 10 f1 fd1 ["_law_w"] (spCode K Z.cF))
    (F__law_table : Fun K "_law_table" "_law_table" s__law_table f2 fd2) (m__law_table : mg "_law_table" = some (.ref f2)) (b__law_table : Binds K fd2 ["_law_w", "_law_many"] []) (G__law_table : GFn P w K mg base CX0 1 f2 fd2 ["_law_w", "_law_many"] (spTab K))
    (F__law_draw : Fun K "_law_draw" "_law_draw" s__law_draw f3 fd3) (m__law_draw : mg "_law_draw" = some (.ref f3)) (b__law_draw : Binds K fd3 ["_law_deck_here", "_law_many"] [])
    (F__law_pick : Fun K "_law_pick" "_law_pick" s__law_pick f4 fd4) (m__law_pick : mg "_law_pick" = some (.ref f4)) (b__law_pick : Binds K fd4 ["_law_deck_here", "_law_some"] [])
    (F__law_led : Fun K "_law_led" "_law_led" s__law_led f5 fd5) (m__law_led : mg "_law_led" = some (.ref f5)) (b__law_led : Binds K fd5 ["_law_w", "_law_word"] []) (G__law_led : GFn P w K mg base CX0 1 f5 fd5 ["_law_w", "_law_word"] (spLLed K))
    (F__law_heard : Fun K "_law_heard" "_law_heard" s__law_heard f6 fd6) (m__law_heard : mg "_law_heard" = some (.ref f6)) (b__law_heard : Binds K fd6 ["_law_code_here", "_law_word", "_law_by"] []) (G__law_heard : GFn P w K mg base CX0 10 f6 fd6 ["_law_code_here", "_law_word", "_law_by"] (spHeard K Z))
    (F__law_far : Fun K "_law_far" "_law_far" s__law_far f7 fd7) (m__law_far : mg "_law_far" = some (.ref f7)) (b__law_far : Binds K fd7 ["_law_deck_here", "_law_many"] []) (G__law_far : GFn P w K mg base CX0 2 f7 fd7 ["_law_deck_here", "_law_many"] spFar)
    (F__law_at : Fun K "_law_at" "_law_at" s__law_at f8 fd8) (m__law_at : mg "_law_at" = some (.ref f8)) (b__law_at : Binds K fd8 ["_law_w", "_law_number", "_law_rows"] []) (G__law_at : GFn P w K mg base CX0 3 f8 fd8 ["_law_w", "_law_number", "_law_rows"] (spLAt K))
    (F__law_due : Fun K "_law_due" "_law_due" s__law_due f9 fd9) (m__law_due : mg "_law_due" = some (.ref f9)) (b__law_due : Binds K fd9 ["_law_w", "_law_number", "_law_rows"] []) (G__law_due : GFn P w K mg base CX0 4 f9 fd9 ["_law_w", "_law_number", "_law_rows"] (spDue K))
    (T : Txt mg) : GFn P w K mg base CX0 11 f fd ["_law_deck_here", "_law_w"] (spRight K) := by
  have G__law_draw : GFn P w K mg base CX0 1 f3 fd3 ["_law_deck_here", "_law_many"] spDraw := ok_draw F__law_draw T
  have G__law_pick : GFn P w K mg base CX0 2 f4 fd4 ["_law_deck_here", "_law_some"] (spPick K) := ok_pick F__law_pick F__law_draw m__law_draw b__law_draw T
  refine gfun_ok F sc__law_right (fun vs H Q E h => ?_) (fun cdv A outer s H vs Q E hgu hr h => ?_)
  · obtain ⟨d, l, r, c, n, ms, es, rfl, _⟩ := h
    rfl
  · obtain ⟨d, l, r, c, n, ms, es, rfl, D0, hc, rd, hW, q⟩ := h
    have nd := sc__law_right.nd
    refine ⟨_, (pss_cons (ps_par (i := 2) (j := 3) rfl nd rfl rfl (by decide) rfl rfl (pa_cons (pe_g G__law_code hgu (hr.mono (by decide)) (by rfl) m__law_code F__law_code.kp b__law_code .nil pass0 (pa_cons (pv 1) pa_nil)) (pa_cons (pe_g G__law_table hgu (hr.mono (by decide)) (by rfl) m__law_table F__law_table.kp b__law_table .nil pass0 (pa_cons (pv 1) (pa_cons pe_int pa_nil))) pa_nil)) (by rfl))
      (pss_cons (ps_par (i := 4) (j := 5) rfl nd rfl rfl (by decide) rfl rfl (pa_cons (pe_callB (k_sum (K := K) rfl) (by rfl) T.sum (by decide +kernel) (pa_cons (pe_lc (own := [("_law_row", 12)]) rfl nd (pi_list (pv 3)) (blkOk_by (N := N__law_right) (sc := defScope s__law_right) (by decide +kernel)) (fun _ _ _ _ _ => (pg_name (i := 12) nd rfl (Or.inl rfl))) (fun _ _ _ _ _ => pts_nil) (fun _ _ _ _ _ => (pe_ix (k_ixL (K := K)) (pv 12) pe_int (fun _ _ => rfl)))) pa_nil)) (pa_cons (pe_callB (k_sum (K := K) rfl) (by rfl) T.sum (by decide +kernel) (pa_cons (pe_lc (own := [("_law_row", 12)]) rfl nd (pi_list (pe_slice (k_slL (K := K)) (pv 3) po_none (po_some pe_int))) (blkOk_by (N := N__law_right) (sc := defScope s__law_right) (by decide +kernel)) (fun _ _ _ _ _ => (pg_name (i := 12) nd rfl (Or.inl rfl))) (fun _ _ _ _ _ => pts_nil) (fun _ _ _ _ _ => (pe_ix (k_ixL (K := K)) (pv 12) pe_int (fun _ _ => rfl)))) pa_nil)) pa_nil)) (by rfl))
      (pss_cons (ps_set (i := 6) nd rfl (Or.inl rfl) (k_join (K := K) pe_str (pe_lc (own := [("_law_k", 13)]) rfl nd (pi_range1 rfl T.range (pa_cons (pe_g G__law_draw hgu (hr.mono (by decide)) (by rfl) m__law_draw F__law_draw.kp b__law_draw .nil pass0 (pa_cons (pv 0) (pa_cons pe_int pa_nil))) pa_nil)) (blkOk_by (N := N__law_right) (sc := defScope s__law_right) (by decide +kernel)) (fun _ _ _ _ _ => (pg_name (i := 13) nd rfl (Or.inl rfl))) (fun _ _ _ _ _ => pts_nil) (fun _ _ _ _ _ => (pe_g G__law_pick hgu (hr.mono (by decide)) (by rfl) m__law_pick F__law_pick.kp b__law_pick .nil pass0 (pa_cons (pv 0) (pa_cons (pe_op op_add_str (pe_dget (hu_of hr) (pv 1) pe_str (fun _ _ => rfl)) pe_str) pa_nil)))))))
      (C8.pss_cut (ps_if (pt_cmpR (k_notinE (K := K) (hu_of hr)) (pe_g G__law_led hgu (hr.mono (by decide)) (by rfl) m__law_led F__law_led.kp b__law_led .nil pass0 (pa_cons (pv 1) (pa_cons (pv 6) pa_nil))) (pe_dget (hu_of hr) (pv 1) pe_str (fun _ _ => rfl)) (by rfl)) (pss_one (ps_if (pt_cmpR op_ne (pe_callB (k_reprX (K := K) hdg hgu hr) (by rfl) T.repr (by decide +kernel) (pa_cons (pe_g G__law_heard hgu (hr.mono (by decide)) (by rfl) m__law_heard F__law_heard.kp b__law_heard .nil pass0 (pa_cons (pv 2) (pa_cons (pv 6) (pa_cons (pe_g G__law_pick hgu (hr.mono (by decide)) (by rfl) m__law_pick F__law_pick.kp b__law_pick .nil pass0 (pa_cons (pv 0) (pa_cons (pe_lst (pa_cons pe_int (pa_cons pe_int (pa_cons (pe_un un_neg pe_int) (pa_cons (pe_op op_pow pe_int pe_int) pa_nil))))) pa_nil))) pa_nil)))) pa_nil)) (pe_callB (k_reprX (K := K) hdg hgu hr) (by rfl) T.repr (by decide +kernel) (pa_cons (pe_lst (pa_cons pe_str (pa_cons (pv 6) pa_nil))) pa_nil)) (nomark _)) (pss_one (ps_ret pe_bl)) pss_nil)) pss_nil)
      (pss_cons (ps_if (pt_cmpR op_eq (pv 5) pe_int (nomark _)) (pss_one (ps_ret pe_bl)) pss_nil)
      (pss_cons (ps_set (i := 7) nd rfl (Or.inl rfl) (pe_g G__law_far hgu (hr.mono (by decide)) (by rfl) m__law_far F__law_far.kp b__law_far .nil pass0 (pa_cons (pv 0) (pa_cons (pe_callB (call_min2 rfl) (by rfl) T.min (by decide +kernel) (pa_cons (pv 5) (pa_cons (pe_g G__law_pick hgu (hr.mono (by decide)) (by rfl) m__law_pick F__law_pick.kp b__law_pick .nil pass0 (pa_cons (pv 0) (pa_cons (pe_lst (pa_cons pe_int (pa_cons pe_int (pa_cons (pe_op op_pow pe_int pe_int) pa_nil)))) pa_nil))) pa_nil))) pa_nil))))
      (pss_cons (ps_set (i := 8) nd rfl (Or.inl rfl) (pe_g G__law_at hgu (hr.mono (by decide)) (by rfl) m__law_at F__law_at.kp b__law_at .nil pass0 (pa_cons (pv 1) (pa_cons (pv 7) (pa_cons (pv 3) pa_nil)))))
      (pss_cons (ps_set (i := 9) nd rfl (Or.inr rfl) (pe_lst (pa_cons pe_int (pa_cons pe_int (pa_cons (pe_un un_neg pe_int) (pa_cons (pe_un un_neg (pv 7)) (pa_cons (pe_op op_sub (pe_un un_neg (pv 7)) pe_int) (pa_cons (pe_g G__law_draw hgu (hr.mono (by decide)) (by rfl) m__law_draw F__law_draw.kp b__law_draw .nil pass0 (pa_cons (pv 0) (pa_cons pe_int pa_nil))) (pa_cons (pe_un un_neg (pe_g G__law_draw hgu (hr.mono (by decide)) (by rfl) m__law_draw F__law_draw.kp b__law_draw .nil pass0 (pa_cons (pv 0) (pa_cons (pe_op op_add (pv 7) pe_int) pa_nil)))) (pa_cons (pe_op op_sub (pe_op op_sub (pv 4) (pv 7)) pe_int) (pa_cons (pe_op op_sub (pv 4) (pv 7)) pa_nil)))))))))))
      (pss_cons (ps_set (i := 9) nd rfl (Or.inr rfl) (pe_op op_cat (pv 9) (pe_lst (pa_cons (pe_g G__law_far hgu (hr.mono (by decide)) (by rfl) m__law_far F__law_far.kp b__law_far .nil pass0 (pa_cons (pv 0) (pa_cons (pe_op op_pow pe_int pe_int) pa_nil))) (pa_cons (pe_un un_neg (pe_g G__law_far hgu (hr.mono (by decide)) (by rfl) m__law_far F__law_far.kp b__law_far .nil pass0 (pa_cons (pv 0) (pa_cons (pe_op op_pow pe_int pe_int) pa_nil)))) (pa_cons (pe_op op_sub (pe_op op_pow pe_int pe_int) pe_int) (pa_cons (pe_op op_sub pe_int (pe_op op_pow pe_int pe_int)) pa_nil)))))))
      (pss_cons (ps_for PassesOwn.never rfl (pi_list (pe_lc (own := [("_law_k", 13)]) rfl nd (pi_range1 rfl T.range (pa_cons pe_int pa_nil)) (blkOk_by (N := N__law_right) (sc := defScope s__law_right) (by decide +kernel)) (fun _ _ _ _ _ => (pg_name (i := 13) nd rfl (Or.inl rfl))) (fun _ _ _ _ _ => pts_nil) (fun _ _ _ _ _ => (pe_g G__law_pick hgu (hr.mono (by decide)) (by rfl) m__law_pick F__law_pick.kp b__law_pick .nil pass0 (pa_cons (pv 0) (pa_cons (pv 9) pa_nil)))))) (pg_name (i := 10) nd rfl (Or.inl rfl))
        (pss_one (ps_if (PW.pt (pw_and (pt_cmpR op_lt (pe_callB call_abs (by rfl) T.abs (by decide +kernel) (pa_cons (pv 10) pa_nil)) (pe_op op_pow pe_int pe_int) (nomark _)) (pw_and1 (pt_cmpR op_ne (pe_callB (k_reprX (K := K) hdg hgu hr) (by rfl) T.repr (by decide +kernel) (pa_cons (pe_g G__law_heard hgu (hr.mono (by decide)) (by rfl) m__law_heard F__law_heard.kp b__law_heard .nil pass0 (pa_cons (pv 2) (pa_cons (pv 8) (pa_cons (pv 10) pa_nil)))) pa_nil)) (pe_callB (k_reprX (K := K) hdg hgu hr) (by rfl) T.repr (by decide +kernel) (pa_cons (pe_g G__law_due hgu (hr.mono (by decide)) (by rfl) m__law_due F__law_due.kp b__law_due .nil pass0 (pa_cons (pv 1) (pa_cons (pe_op op_add (pv 7) (pv 10)) (pa_cons (pv 3) pa_nil)))) pa_nil)) (nomark _))))) (pss_one (ps_ret pe_bl)) pss_nil)))
      (pss_cons (ps_set (i := 10) nd rfl (Or.inl rfl) (pe_g G__law_draw hgu (hr.mono (by decide)) (by rfl) m__law_draw F__law_draw.kp b__law_draw .nil pass0 (pa_cons (pv 0) (pa_cons pe_int pa_nil))))
      (pss_cons (ps_set (i := 11) nd rfl (Or.inl rfl) (pe_callSK (E := fun _ => E0) G_step (hr.mono (by decide)) (by rfl) m_step F_step.kp kb_step_by_word_form passSL (pk_cons (pv 10) (pk_cons (pv 8) (pk_cons (pv 2) pk_nil)))))
      (pss_cons (ps_if (PW.pt (pw_or (pt_cmpR op_isN (pv 11) pe_non (nomark _)) (pw_or1 (pt_cmpR op_gt (pe_callB call_len (by rfl) T.len (by decide +kernel) (pa_cons (pv 11) pa_nil)) pe_int (nomark _))))) (pss_one (ps_ret pe_bl)) pss_nil)
      (pss_one (ps_ret (pe_and (pe_cmpR (k_eqD (K := K) hr.units) (pe_callS (E := fun _ => E0) G_step (hr.mono (by decide)) (by rfl) m_step F_step.kp b_step passSL (pa_cons (pv 2) (pa_cons (pv 11) (pa_cons (pe_un un_neg (pv 10)) pa_nil)))) (pv 8) (nomark _)) (pe_one (pe_cmpR (k_eqD (K := K) hr.units) (pe_callS (E := fun _ => E0) G_step (hr.mono (by decide)) (by rfl) m_step F_step.kp b_step passSL (pa_cons (pv 2) (pa_cons (pv 11) (pa_cons (pe_op op_sub pe_int (pv 10)) pa_nil)))) (pe_callS (E := fun _ => E0) G_step (hr.mono (by decide)) (by rfl) m_step F_step.kp b_step passSL (pa_cons (pv 2) (pa_cons (pv 8) (pa_cons pe_int pa_nil)))) (nomark _))))))))))))))))))), ?_⟩
    obtain ⟨b, hb⟩ := endN_ex n ms es
    have O := hW.1
    have n4 := hW.2.1
    refine ⟨_, rfl, r, n, ms, es, rfl, hW, fun a H1 s1 hF => ?_⟩
    refine ⟨_, rfl, r, n, ms, es, 200, rfl, hW.same s1, by decide, fun p H2 s2 np1 hR => ?_⟩
    refine ⟨_, _, rfl, ?_⟩
    have np : H p = none := s1.free np1
    have hR0 : RowsN H H2 p ((List.range 201).map (cAt n ms es)) := by
      obtain ⟨qs, e1, e2, e3, e4⟩ := hR
      exact ⟨qs, e1, e2, e3, fun q hq => s1.free (e4 q hq)⟩
    have R2 : Rt K Z H d l r a p n ms es c H2 c := ⟨D0, D0.same (s1.trans s2), rd, (hW.same s1).same s2, hF.same s2, np, hR0⟩
    clear hR hR0 hF s1 s2 np1
    -- the sums
    obtain ⟨qs, g1, g2, g3, g4⟩ := R2.rows
    rw [List.length_map, List.length_range] at g2
    have g3 : ∀ (k : Nat) (c : Addr), qs[k]? = some c → H2 c = some (.lst (natsV (cAt n ms es k))) := fun k c e => by
      have z := g3 k c e
      have hi := (List.getElem?_eq_some_iff.mp e).1
      rw [List.getD_eq_getElem?_getD, List.getElem?_map, List.getElem?_range (by omega)] at z
      exact z
    refine ⟨_, rfl, p, rfl, ⟨_, SqL.of g1⟩, fun D nD => ?_⟩
    refine lc_valW (walk_list (K := K) (a := p) (xs := qs.map V.ref)) (by rw [List.length_map]; omega) nD (fun j => V.int ((cnt0 n ms es j : Nat) : Int)) (fun H3 s3 => SqL.of (s3 _ _ g1)) ?_ ?_
    · rintro j x H3 H4 hj s3 ⟨rfl, hx⟩ R hR
      rw [List.getElem?_map] at hx
      obtain ⟨e, he, rfl⟩ := Option.map_eq_some_iff.mp hx
      exact ⟨wipe1 _ _ _, _, rfl, e, _, 0, _, rfl, rfl, SqL.of (s3 _ _ (g3 j e he)), atI_nat (j := 0) (cAt_get O.n0), hR _ (Same.refl _)⟩
    intro H3 s3 hD
    rw [List.length_map, g2] at hD
    have es1 : (List.range 201).map (fun j => V.int ((cnt0 n ms es j : Nat) : Int)) = (((List.range 201).map fun k => cnt0 n ms es k).map fun n : Nat => (n : Int)).map V.int := by
      rw [List.map_map, List.map_map]
      rfl
    rw [es1] at hD
    refine ⟨D, _, rfl, SqL.of hD, ?_⟩
    rw [sum_nats]
    have R3 := R2.same s3
    refine ⟨_, rfl, 60, rfl, p, _, rfl, SqL.of (s3 _ _ g1), fun p6 np6 => ?_⟩
    rw [show cutV (qs.map V.ref) none (some (60 : Int)) = (qs.map V.ref).take 60 from cut_take _ 60]
    have h6 : upd H3 p6 (.lst ((qs.map V.ref).take 60)) p6 = some (.lst ((qs.map V.ref).take 60)) := upd_same
    have s4 := s3.trans (same_new (o := .lst ((qs.map V.ref).take 60)) np6)
    generalize upd H3 p6 (.lst ((qs.map V.ref).take 60)) = H4 at h6 s4 ⊢
    refine ⟨p6, rfl, ⟨_, SqL.of h6⟩, fun D2 nD2 => ?_⟩
    have l60 : ((qs.map V.ref).take 60).length = 60 := by rw [List.length_take, List.length_map]; omega
    refine lc_valW (walk_list (K := K) (a := p6) (xs := (qs.map V.ref).take 60)) (by omega) nD2 (fun j => V.int ((cnt0 n ms es j : Nat) : Int)) (fun H5 s5 => SqL.of (s5 _ _ h6)) ?_ ?_
    · rintro j x H5 H6 hj s5 ⟨rfl, hx⟩ R hR
      rw [l60] at hj
      rw [List.getElem?_take_of_lt hj, List.getElem?_map] at hx
      obtain ⟨e, he, rfl⟩ := Option.map_eq_some_iff.mp hx
      exact ⟨wipe1 _ _ _, _, rfl, e, _, 0, _, rfl, rfl, SqL.of ((s4.trans s5) _ _ (g3 j e he)), atI_nat (j := 0) (cAt_get O.n0), hR _ (Same.refl _)⟩
    intro H5 s5 hD2
    rw [l60] at hD2
    have es2 : (List.range 60).map (fun j => V.int ((cnt0 n ms es j : Nat) : Int)) = (((List.range 60).map fun k => cnt0 n ms es k).map fun n : Nat => (n : Int)).map V.int := by
      rw [List.map_map, List.map_map]
      rfl
    rw [es2] at hD2
    refine ⟨D2, _, rfl, SqL.of hD2, ?_⟩
    rw [sum_nats]
    refine ⟨_, _, rfl, ?_⟩
    have R5 := R2.same (s4.trans s5)
    change Rt K Z H d l r a p n ms es c H5 c at R5
    have etot : ((List.range 201).map fun k => cnt0 n ms es k).sum = shN n ms es 201 := rfl
    have enear : ((List.range 60).map fun k => cnt0 n ms es k).sum = shN n ms es 60 := rfl
    obtain ⟨N201, e201⟩ : ∃ N, shN n ms es 201 = N := ⟨_, rfl⟩
    obtain ⟨N60, e60⟩ : ∃ N, shN n ms es 60 = N := ⟨_, rfl⟩
    rw [etot, enear, e201, e60]
    clear etot enear es1 es2 hD hD2 g1 g2 g3 g4 h6 l60 R3 R2 s3 s4 s5 nD nD2 np6
    -- a text
    obtain ⟨O', n4', ml, am, ae, gs, w1, w2, w3, w4⟩ := R5.w
    have gb : ∀ g ∈ gs, g ≤ 122 := by
      simp only [sgSets, List.mem_cons, List.not_mem_nil, or_false] at w4
      rcases w4 with rfl | rfl | rfl | rfl <;> decide
    have gl : gs.length ≤ 3 := by
      simp only [sgSets, List.mem_cons, List.not_mem_nil, or_false] at w4
      rcases w4 with rfl | rfl | rfl | rfl <;> decide
    refine ⟨⟨_, rfl⟩, _, rfl, d, l, c, 5, rfl, R5.D, by omega, by decide, by decide, fun r1 H6 r10 r11 D6 k6 => ?_⟩
    obtain ⟨m, rfl⟩ : ∃ m : Nat, r1 = (m : Int) := ⟨r1.toNat, by omega⟩
    have R6 := R5.kept k6 D6
    refine ⟨m, rfl, by omega, by omega, fun D3 nD3 => ?_⟩
    rw [Int.toNat_natCast]
    refine lc_drawsG (B := fun x => ∃ g : Nat, x = V.str ⟨#[g]⟩ ∧ g ≤ 122) D6 nD3 (by omega) ?_ ?_
    · intro i H7 hi D7 k7 R hR
      have R7 := R6.kept k7 D7
      obtain ⟨_, _, _, am7, ae7, gs7, v1, v2, v3, v4⟩ := R7.w
      have gb7 : ∀ g ∈ gs7, g ≤ 122 := by
        simp only [sgSets, List.mem_cons, List.not_mem_nil, or_false] at v4
        rcases v4 with rfl | rfl | rfl | rfl <;> decide
      have gl7 : gs7.length ≤ 3 := by
        simp only [sgSets, List.mem_cons, List.not_mem_nil, or_false] at v4
        rcases v4 with rfl | rfl | rfl | rfl <;> decide
      have esz : ((⟨gs7.toArray⟩ : Str) ++ Str.ofString "q") = ⟨(gs7 ++ [113]).toArray⟩ := by
        show (⟨gs7.toArray ++ (Str.ofString "q").cps⟩ : Str) = _
        rw [show (Str.ofString "q").cps = #[113] by decide +kernel]
        exact congrArg Str.mk (by simp)
      have lsz : (⟨gs7.toArray⟩ : Str).length = gs7.length := by show gs7.toArray.size = _; simp
      refine ⟨_, rfl, _, rfl, r, _, rfl, gLetters v1, _, _, rfl, rfl, ?_, ?_⟩
      · rw [lsz, show (Str.ofString "q").length = 1 by decide +kernel]
        exact Nat.le_trans (show gs7.length + 1 ≤ 10 by omega) (by decide)
      rw [esz]
      refine ⟨d, l, c + 1 + i, D7, by omega, .inr ⟨_, rfl, ?_, ?_, fun g H8 hg D8 k8 => hR _ H8 ⟨g, rfl, ?_⟩ D8 k8⟩⟩
      · show 0 < (gs7 ++ [113]).toArray.size
        simp
      · show (gs7 ++ [113]).toArray.size ≤ 1000
        simp
        omega
      · have hg : g ∈ gs7 ++ [113] := hg
        rcases List.mem_append.mp hg with y | y
        · exact gb7 g y
        · rw [List.mem_singleton.mp y]
          decide
    intro xs H7 lx hx hD3 D7 k7
    have R7 := R6.kept k7 D7
    obtain ⟨ts, rfl, tl, tb⟩ := signs22 hx
    rw [lx] at tl
    clear hx lx
    refine ⟨_, D3, _, rfl, rfl, .inl (SqL.of hD3), ?_, ?_⟩
    · have e2 : ((ts.map fun g => (⟨#[g]⟩ : Str)).map (·.length)).sum = ts.length := by
        rw [List.map_map]
        have : ts.map ((·.length) ∘ fun g => (⟨#[g]⟩ : Str)) = ts.map fun _ => 1 := rfl
        rw [this, List.map_const', List.sum_replicate_nat, Nat.mul_one]
      have e0 : (Str.ofString "").length = 0 := by decide +kernel
      rw [e2, e0]
      show _ ≤ 16777216
      omega
    rw [show Txt.join (Str.ofString "") (ts.map fun g => (⟨#[g]⟩ : Str)) = S ts from join_signs ts]
    clear hD3 k7 D7
    generalize hcc : c + 1 + m = cc at R7
    have cc1 : cc ≤ c + 5 := by omega
    clear hcc nD3
    -- a text that is no word
    refine ⟨fun σ' H' => ∃ (c2 : Nat) (y : Option V), σ' = [some (.ref d), some (.ref r), some (.ref a), some (.ref p), some (.int (N201 : Nat)), some (.int (N60 : Nat)), some (.str (S ts)), none, none, none, none, none, none, none] ∧ Rt K Z H d l r a p n ms es c H' c2 ∧ c2 ≤ c + 6, ?_, ?_⟩
    · obtain ⟨_, _, _, am7, ae7, gs7, v1, v2, v3, v4⟩ := R7.w
      refine ⟨_, rfl, _, rfl, r, n, ms, es, S ts, rfl, R7.w, fun H8 s8 => ?_⟩
      have R8 := R7.same s8
      refine ⟨_, rfl, r, _, rfl, gEnds (s8 _ _ v1), .inl ⟨ae7, _, rfl, .inr (sameT s8 v3), flat_opt _, flat_nats _, ?_⟩⟩
      rw [in_opt]
      refine ⟨_, rfl, ?_⟩
      cases hw : hasW ms es (S ts).cps.toList with
      | true =>
        refine ifF (by unfold hasW at hw; rw [hw]; rfl) ?_
        exact ⟨cc, none, rfl, R8, by omega⟩
      | false =>
        refine ifT (by unfold hasW at hw; rw [hw]; rfl) ?_
        refine ⟨_, rfl, _, rfl, _, rfl, ?_⟩
        refine ⟨_, rfl, _, _, rfl, rfl, ⟨by decide, by decide, by decide⟩, by show 4 ≤ sizeLine; decide, fun pk npk => ?_⟩
        refine ⟨d, l, cc, R8.D.upd npk, by omega, .inl ⟨pk, _, rfl, SqL.of upd_same, (R8.D.ne npk).2, by simp, by decide, fun x H9 hx D9 k9 => ?_⟩⟩
        have R9 := (R8.same (same_new npk)).kept k9 D9
        obtain ⟨by_, rfl⟩ : ∃ i : Int, x = V.int i := by
          simp only [List.mem_cons, List.not_mem_nil, or_false] at hx
          rcases hx with rfl | rfl | rfl | rfl <;> exact ⟨_, rfl⟩
        refine ⟨a, n, ms, es, S ts, by_, b, rfl, R9.f, n4, by rw [S_len]; omega, hb, fun _ p1 H10 s10 h10 => ?_, fun e => by rw [hw] at e; exact Bool.noConfusion e⟩
        have R10 := R9.same s10
        unfold tNil
        dsimp only
        refine rep_none h10 tb (by omega) ?_
        refine ⟨_, rfl, by show 2 ≤ sizeLine; decide, fun p2 np2 => ?_⟩
        have R11 := R10.same (same_new (o := .lst [.str "none", .str (S ts)]) np2)
        refine rep_none upd_same tb (by omega) ?_
        refine ⟨rfl, false, ne_self _, ifF rfl ?_⟩
        exact ⟨cc + 1, none, rfl, R11, by omega⟩
    rintro σ' H8 ⟨c2, y, rfl, R8, c28⟩
    clear R7 R6 R5 w1 w2 w3 w4
    refine ⟨_, rfl, rfl, _, rfl, ?_⟩
    rcases Nat.eq_zero_or_pos N60 with z | npos
    · exact ifT (decide_eq_true (by rw [z]; rfl)) (q _)
    refine ifF (decide_eq_false fun e => by injection e with e; omega) ?_
    -- a word
    refine ⟨_, rfl, _, rfl, _, rfl, _, _, rfl, rfl, ⟨by decide, by decide, by decide⟩, by show 3 ≤ sizeLine; decide, fun pk npk => ?_⟩
    refine ⟨d, l, c2, R8.D.upd npk, by omega, .inl ⟨pk, _, rfl, SqL.of upd_same, (R8.D.ne npk).2, by simp, by decide, fun x H9 hx D9 k9 => ?_⟩⟩
    have R9 := (R8.same (same_new npk)).kept k9 D9
    obtain ⟨k0, rfl, k01, k02⟩ : ∃ i : Int, x = V.int i ∧ 0 < i ∧ i ≤ 1000000000 := by
      simp only [List.mem_cons, List.not_mem_nil, or_false] at hx
      rcases hx with rfl | rfl | rfl
      · exact ⟨_, rfl, by decide, by decide⟩
      · exact ⟨_, rfl, by decide, by decide⟩
      · exact ⟨_, rfl, by decide, by decide⟩
    refine ⟨_, _, rfl, ?_⟩
    obtain ⟨kk, ekk, kk0, kk1, kk2⟩ : ∃ kk : Int, (if k0 < ((N60 : Nat) : Int) then k0 else ((N60 : Nat) : Int)) = kk ∧ 0 < kk ∧ kk ≤ 1000000000 ∧ kk ≤ ((N60 : Nat) : Int) := by
      refine ⟨_, rfl, ?_⟩
      split <;> omega
    rw [ekk]
    refine ⟨d, l, c2 + 1, kk, rfl, kk0, Int.le_trans kk1 (by decide), R9.D, by omega, fun r2 H10 r20 r21 D10 k10 => ?_⟩
    have R10 := R9.kept k10 D10
    obtain ⟨at_, rfl⟩ : ∃ m : Nat, r2 = (m : Int) := ⟨r2.toNat, by omega⟩
    have at1 : at_ < shN n ms es 60 := by rw [e60]; omega
    have at2 : at_ < 1000000000 := by omega
    obtain ⟨wd, ewd⟩ := due_ex (b := b) at1
    obtain ⟨wl, wh, wn⟩ := due_wd O ewd
    refine ⟨_, rfl, _, rfl, _, rfl, r, p, n, ms, es, b, at_, rfl, R10.w, R10.rows.at, hb, fun H11 s11 => ?_⟩
    rw [ewd]
    show gName 8 (.str (S wd)) _ _ _
    have R11 := R10.same s11
    clear R8 R9 R10 ekk kk0 kk1 kk2 k01 k02
    -- the steps
    refine ⟨_, rfl, _, rfl, _, rfl, _, rfl, _, rfl, _, _, rfl, rfl, ?_⟩
    refine ⟨_, rfl, d, l, c2 + 1 + 11, 50, rfl, R11.D, by omega, by decide, by decide, fun r3 H12 _ _ D12 k12 => ?_⟩
    have R12 := R11.kept k12 D12
    refine ⟨_, rfl, _, rfl, _, _, rfl, rfl, d, l, _, (at_ : Int) + 1, rfl, R12.D, by omega, by omega, by omega, fun r4 H13 _ _ D13 k13 => ?_⟩
    have R13 := R12.kept k13 D13
    refine ⟨_, rfl, _, rfl, _, rfl, _, _, rfl, rfl, _, _, rfl, rfl, _, rfl, _, rfl, _, _, rfl, rfl, ?_⟩
    exists pf, npf, H14, s14, h14
    have R14 := R13.same s14
    refine ⟨_, rfl, _, rfl, _, _, rfl, rfl, ⟨by decide, by decide, by decide⟩, ?_⟩
    refine ⟨d, l, _, (10 : Int) ^ (59 : Int).toNat, rfl, by decide, by decide, R14.D, by omega, fun r5 H15 _ _ D15 k15 => ?_⟩
    have R15 := R14.kept k15 D15
    refine ⟨_, rfl, _, _, rfl, rfl, ⟨by decide, by decide, by decide⟩, ?_⟩
    refine ⟨d, l, _, (10 : Int) ^ (59 : Int).toNat, rfl, by decide, by decide, R15.D, by omega, fun r6 H16 _ _ D16 k16 => ?_⟩
    have R16 := R15.kept k16 D16
    refine ⟨_, rfl, _, _, rfl, rfl, ⟨by decide, by decide, by decide⟩, _, _, rfl, rfl, _, _, rfl, rfl, ⟨by decide, by decide, by decide⟩, _, _, rfl, rfl, ?_⟩
    exists pg, npg, H17, s17, h17
    have R17 := R16.same s17
    obtain ⟨pfd, pfl⟩ := R13.D.ne npf
    have h17f := s17 _ _ (k16 _ _ (k15 _ _ h14 pfd pfl) pfd pfl)
    refine ⟨pf, pg, _, _, rfl, rfl, h17f, h17, by show 9 + 4 ≤ sizeLine; decide, fun ph nph => ?_⟩
    generalize hh : upd H17 ph _ = H18
    obtain ⟨s18, h18⟩ := mkq nph hh
    clear hh
    obtain ⟨is, his, lis⟩ : ∃ is : List Int, H18 ph = some (.lst (is.map V.int)) ∧ is.length = 13 := ⟨[_, _, _, _, _, _, _, _, _, _, _, _, _], h18, rfl⟩
    have R18 := R17.same s18
    obtain ⟨phd, phl⟩ := R17.D.ne nph
    generalize hcc : c2 + 1 + 11 + 1 + 1 + 11 + 11 = cc at R18
    have cc2 : cc ≤ c + 60 := by omega
    clear hcc h18 h17f h17 h14 s17 s18 s14 R11 R12 R13 R14 R15 R16 R17
    refine ⟨4, rfl, by decide, by decide, fun D4 nD4 => ?_⟩
    refine lc_drawsG (n := 4) (B := fun x => ∃ i : Int, x = V.int i) R18.D nD4 (by decide) ?_ ?_
    · intro i H2 hi D2 k2 R hR
      refine ⟨_, rfl, _, rfl, d, l, cc + i, D2, by omega, .inl ⟨ph, _, rfl, SqL.of (k2 _ _ his phd phl), phl, ?_, by rw [List.length_map]; omega, fun x H8 hx D8 k8 => hR x H8 ?_ D8 k8⟩⟩
      · exact fun e => by
          have := congrArg List.length e
          rw [List.length_map, lis] at this
          exact nomatch this
      · obtain ⟨i, _, rfl⟩ := List.mem_map.mp hx
        exact ⟨i, rfl⟩
    intro xs H19 lx hx hD4 D19 k19
    have R19 := R18.kept k19 D19
    obtain ⟨ks, rfl⟩ := ints_of hx
    rw [List.length_map] at lx
    have okw : ∀ i l, dueN n ms es b i = .wd l → lettersB l = true ∧ l.length ≤ 200 := fun i l e => by
      obtain ⟨h1, h2, _⟩ := due_wd O e
      exact ⟨has_letters O h2, h1⟩
    refine ⟨D4, rfl, ⟨_, SqL.of hD4⟩, ?_⟩
    refine for_it (walk_list (K := K) (a := D4) (xs := ks.map V.int)) (fun i σ HI => ∃ (y10 : Option V), σ = [some (.ref d), some (.ref r), some (.ref a), some (.ref p), some (.int (N201 : Nat)), some (.int (N60 : Nat)), some (.str (S ts)), some (.int (at_ : Nat)), some (.str (S wd)), some (.ref ph), y10, none, none, none] ∧ Same H19 HI)
      ⟨none, rfl, Same.refl _⟩ (fun i σ HI _ h => by obtain ⟨_, _, h⟩ := h; exact SqL.of (h _ _ hD4)) ?_ ?_
    · rintro i x σ H20 H21 hi ⟨y10, rfl, s20⟩ ⟨rfl, hx⟩
      rw [List.getElem?_map] at hx
      obtain ⟨by_, hby, rfl⟩ := Option.map_eq_some_iff.mp hx
      have R20 := R19.same s20
      refine ⟨_, rfl, by_, rfl, _, _, rfl, rfl, ⟨by decide, by decide, by decide⟩, _, _, rfl, rfl, _, rfl, ?_⟩
      by_cases lt : (if by_ < 0 then -by_ else by_) < 10 ^ (60 : Int).toNat
      case neg => exact ifF (decide_eq_false lt) (ifF rfl ⟨_, rfl, s20⟩)
      refine ifT (decide_eq_true lt) ?_
      refine ⟨_, rfl, _, rfl, _, rfl, ?_⟩
      refine ⟨a, n, ms, es, S wd, by_, b, rfl, R20.f, n4, by rw [S_len]; omega, hb, fun e => ?_, fun _ x H22 s22 hx => ?_⟩
      · have e : hasW ms es wd = false := e
        rw [wh] at e
        exact Bool.noConfusion e
      have hx : DueAt K H22 x (dueN n ms es b (((ahdN n ms es wd : Nat) : Int) + by_)) := hx
      rw [wn] at hx
      have R22 := R20.same s22
      unfold tNil
      dsimp only
      refine rep_due hx (fun l e => okw _ l e) ?_
      refine ⟨_, rfl, _, rfl, _, rfl, _, _, rfl, rfl, _, rfl, r, p, n, ms, es, b, (at_ : Int) + by_, rfl, R22.w, R22.rows.at, hb, fun x2 H23 s23 hx2 => ?_⟩
      refine rep_due hx2 (fun l e => okw _ l e) ?_
      exact ⟨rfl, false, ne_self _, ifF rfl ⟨_, rfl, (s20.trans s22).trans s23⟩⟩
    rintro σ H20 ⟨y10, rfl, s20⟩
    have R20 := R19.same s20
    clear R18 R19 his hD4
    -- there and back
    refine ⟨_, rfl, d, l, cc + 4, 30, rfl, R20.D, by omega, by decide, by decide, fun r7 H21 r70 r71 D21 k21 => ?_⟩
    have R21 := R20.kept k21 D21
    obtain ⟨j, rfl⟩ : ∃ j : Nat, r7 = (j : Int) := ⟨r7.toNat, by omega⟩
    have lwd : (S wd).length ≤ 900 := by rw [S_len]; omega
    refine ⟨_, rfl, _, rfl, _, rfl, ?_⟩
    unfold tNil
    dsimp only [kwThree]
    refine st_due (z := S wd) (by_ := (j : Int)) (b := b) R21.f n4 lwd wh hb (fun e H22 s22 => ?_) (fun l2 e H22 s22 => ?_) (fun e => ?_)
    · exact ⟨_, rfl, rfl, true, rfl, ifT rfl (ifT rfl (q _))⟩
    rotate_left
    · exfalso
      have e : dueN n ms es b (((ahdN n ms es wd : Nat) : Int) + (j : Int)) = .long := e
      rw [wn] at e
      exact due_near O n4 hb at1 (by omega) e
    have e : dueN n ms es b (((ahdN n ms es wd : Nat) : Int) + (j : Int)) = .wd l2 := e
    rw [wn] at e
    obtain ⟨vl, vh, vn⟩ := due_wd O e
    have R22 := R21.same s22
    have lvd : (S l2).length ≤ 900 := by rw [S_len]; omega
    refine ⟨_, rfl, rfl, false, rfl, ifF rfl ?_⟩
    refine ⟨_, rfl, _, _, rfl, ⟨Nat.le_trans lvd (by decide), rfl⟩, _, _, rfl, rfl, _, rfl, ?_⟩
    by_cases lt : (110 : Int) < ((S l2).length : Nat)
    · exact ifT (decide_eq_true lt) (q _)
    refine ifF (decide_eq_false lt) ?_
    refine ⟨_, rfl, _, rfl, _, rfl, _, rfl, ?_⟩
    dsimp only
    refine st_due (z := S l2) (by_ := -(j : Int)) (b := b) R22.f n4 lvd vh hb (fun e2 => ?_) (fun l3 e2 H23 s23 => ?_) (fun e2 => ?_)
    · exfalso
      have e2 : dueN n ms es b (((ahdN n ms es l2 : Nat) : Int) + -(j : Int)) = .no := e2
      rw [vn, show (at_ : Int) + (j : Int) + -(j : Int) = at_ by omega, ewd] at e2
      exact nomatch e2
    rotate_left
    · exfalso
      have e2 : dueN n ms es b (((ahdN n ms es l2 : Nat) : Int) + -(j : Int)) = .long := e2
      rw [vn, show (at_ : Int) + (j : Int) + -(j : Int) = at_ by omega, ewd] at e2
      exact nomatch e2
    have e2 : dueN n ms es b (((ahdN n ms es l2 : Nat) : Int) + -(j : Int)) = .wd l3 := e2
    rw [vn, show (at_ : Int) + (j : Int) + -(j : Int) = at_ by omega, ewd] at e2
    injection e2 with e2
    subst e2
    have R23 := R22.same s23
    have self : ∀ l, lettersB l = true → PyData.eqv (.str (S l)) (.str (S l)) = true := fun l _ => by
      show (S l == S l) = true
      exact beq_self_eq_true _
    have lw := has_letters O wh
    refine ⟨_, rfl, .str (S wd), .str (S wd), .str _, .str _, shaped_S lw, shaped_S lw, ?_⟩
    rw [self wd lw]
    refine ⟨true, rfl, ifT rfl ?_⟩
    -- one more
    have far : dueN n ms es b ((at_ : Int) + ((1 : Nat) : Int)) ≠ .long := due_near O n4 hb at1 (by decide)
    have far : dueN n ms es b ((at_ : Int) + 1) ≠ .long := far
    have left : ((ahdN n ms es (S l2).cps.toList : Nat) : Int) + (1 - (j : Int)) = at_ + 1 := by
      have vn : ((ahdN n ms es (S l2).cps.toList : Nat) : Int) = at_ + j := vn
      omega
    have right : ((ahdN n ms es (S wd).cps.toList : Nat) : Int) + 1 = at_ + 1 := by
      have wn : ((ahdN n ms es (S wd).cps.toList : Nat) : Int) = at_ := wn
      omega
    have both : ∀ (R : VK) (x : V) (H23 : Hp), Rt K Z H d l r a p n ms es c H23 (cc + 4 + 1) → (∀ y H24, Same H23 H24 → DueAt K H24 y (dueN n ms es b ((at_ : Int) + 1)) → R y H24) → spSt K Z [.ref a, .str (S wd), .int 1] H23 R E0 := fun R x H23 R23 hq => by
      refine st_due (z := S wd) (by_ := 1) (b := b) R23.f n4 lwd wh hb (fun e2 H24 s24 => ?_) (fun l3 e2 H24 s24 => ?_) (fun e2 => ?_)
      · rw [right] at e2
        exact hq _ _ s24 (by rw [e2]; exact rfl)
      · rw [right] at e2
        exact hq _ _ s24 (by rw [e2]; exact rfl)
      · rw [right] at e2
        exact absurd e2 far
    refine ⟨_, rfl, _, rfl, _, rfl, _, _, rfl, rfl, ?_⟩
    dsimp only
    refine st_due (z := S l2) (by_ := 1 - (j : Int)) (b := b) R23.f n4 lvd vh hb (fun e2 H24 s24 => ?_) (fun l3 e2 H24 s24 => ?_) (fun e2 => ?_)
    · rw [left] at e2
      refine ⟨_, rfl, _, rfl, ?_⟩
      dsimp only [tCons, tC]
      refine both _ .non H24 (R23.same s24) fun y H25 s25 hy => ?_
      rw [e2] at hy
      obtain rfl : y = .non := hy
      exact ⟨.none, .none, .non, .non, rfl, rfl, q _⟩
    · rw [left] at e2
      refine ⟨_, rfl, _, rfl, ?_⟩
      dsimp only [tCons, tC]
      refine both _ .non H24 (R23.same s24) fun y H25 s25 hy => ?_
      rw [e2] at hy
      obtain rfl : y = .str (S l3) := hy
      have l3w := (okw _ _ e2).1
      refine ⟨.str (S l3), .str (S l3), .str _, .str _, shaped_S l3w, shaped_S l3w, ?_⟩
      rw [self l3 l3w]
      exact q _
    · rw [left] at e2
      exact absurd e2 far
end
end SG

/-! The law. -/
namespace SG
open PySem PySem.Spec PyProof PyProof.Rows L2
local macro_rules
  | `(tactic| clean_wf) => `(tactic| repeat (first | refine ⟨_, rfl, ?_⟩ | refine ⟨rfl, ?_⟩ | refine ⟨_, _, rfl, ?_⟩ | refine ⟨_, _, rfl, rfl, ?_⟩ | refine ⟨_, _, _, rfl, ?_⟩ | refine ⟨_, _, _, _, rfl, ?_⟩))
local macro_rules
  | `(tactic| exists $u:ident, $n:ident, $H:ident, $q:ident, $e:ident) => `(tactic| (refine ⟨by first | exact Nat.zero_le _ | assumption | (simp only [List.length_cons, List.length_nil]; decide), fun $u $n => ?_⟩; generalize hh : upd _ $u _ = $H; obtain ⟨$q, $e⟩ := mkq $n hh; clear hh))
local macro_rules
  | `(tactic| simp_wf) => `(tactic| first | assumption | exact upd_same | (refine (by assumption : Same _ _) _ _ ?_; simp_wf) | (refine (by assumption : Kept _ _ _ _) _ _ ?_ (by assumption) (by assumption); simp_wf))
local macro_rules
  | `(tactic| decreasing_trivial) => `(tactic| first | assumption | exact .inl (.inl (by assumption)) | (refine sameT (by assumption) ?_; decreasing_trivial))
local macro_rules
  | `(tactic| array_get_dec) => `(tactic| first | assumption | (refine CdAt.same (by assumption) ?_; array_get_dec))
theorem exm_is {K : PySem.W.Frag} {c : Value} {S : Addr} {b : Bool} (h1 : PySem.W.subIn K (.ref S) (.type "BaseException") = some true) (h2 : PySem.W.isClsIn K S = true) (h3 : PySem.W.typeIn K (.ref S) = some (.type "type")) (h4 : PySem.W.subIn K c (.ref S) = some b) :
    PySem.W.exmOne K c (.ref S) = some b := by
  have h2 : (PySem.W.clsIn K S).isSome = true := h2
  simp only [PySem.W.exmOne, PySem.W.kitCls, h1, h2, h3, h4]
  rfl
section
variable {P : Program} {w : World} {K : PySem.W.Frag} {mg : Str → Option Value} {base : Heap} {Z : Ads}
def spLaw (K : PySem.W.Frag) : Sp := fun vs H Q _ => ∃ (a : Addr) (ns : List Int), vs = [.ref a] ∧ SqL K H a (ns.map V.int) ∧ ns.length ≤ 63 ∧ ∀ H2, Q (.bl true) H2
theorem ok_law {f f0 f1 f2 f3 f4 : Addr} {fd fd0 fd1 fd2 fd3 fd4 : FuncData} (F : Fun K "law" "law" s_law f fd)
    (F__law_deck : Fun K "_law_deck" "_law_deck" s__law_deck f0 fd0) (m__law_deck : mg "_law_deck" = some (.ref f0)) (b__law_deck : Binds K fd0 ["_law_script"] [])
    (F__law_draw : Fun K "_law_draw" "_law_draw" s__law_draw f1 fd1) (m__law_draw : mg "_law_draw" = some (.ref f1)) (b__law_draw : Binds K fd1 ["_law_deck_here", "_law_many"] [])
    (F__law_pick : Fun K "_law_pick" "_law_pick" s__law_pick f2 fd2) (m__law_pick : mg "_law_pick" = some (.ref f2)) (b__law_pick : Binds K fd2 ["_law_deck_here", "_law_some"] [])
    (F__law_form : Fun K "_law_form" "_law_form" s__law_form f3 fd3) (m__law_form : mg "_law_form" = some (.ref f3)) (b__law_form : Binds K fd3 ["_law_deck_here"] [])
    (F__law_right : Fun K "_law_right" "_law_right" s__law_right f4 fd4) (m__law_right : mg "_law_right" = some (.ref f4)) (b__law_right : Binds K fd4 ["_law_deck_here", "_law_w"] []) (G__law_right : GFn P w K mg base CX0 11 f4 fd4 ["_law_deck_here", "_law_w"] (spRight K))
    (T : Txt mg) : GFn P w K mg base CX0 12 f fd ["_law_script"] (spLaw K) := by
  have G__law_deck : GFn P w K mg base CX0 1 f0 fd0 ["_law_script"] (spDeck K) := ok_deck F__law_deck T
  have G__law_form : GFn P w K mg base CX0 3 f3 fd3 ["_law_deck_here"] (spLForm K) := ok_form F__law_form F__law_draw m__law_draw b__law_draw F__law_pick m__law_pick b__law_pick T
  refine gfun_ok F sc_law (fun vs H Q E h => ?_) (fun cdv A outer s H vs Q E hgu hr h => ?_)
  · obtain ⟨a, ns, rfl, _⟩ := h
    rfl
  · obtain ⟨a, ns, rfl, hS, hlen, q⟩ := h
    have nd := sc_law.nd
    refine ⟨_, (pss_cons (ps_set (i := 1) nd rfl (Or.inl rfl) (pe_g G__law_deck hgu (hr.mono (by decide)) (by rfl) m__law_deck F__law_deck.kp b__law_deck .nil pass0 (pa_cons (pv 0) pa_nil)))
      (pss_one (ps_ret (pe_g G__law_right hgu (hr.mono (by decide)) (by rfl) m__law_right F__law_right.kp b__law_right .nil pass0 (pa_cons (pv 1) (pa_cons (pe_g G__law_form hgu (hr.mono (by decide)) (by rfl) m__law_form F__law_form.kp b__law_form .nil pass0 (pa_cons (pv 1) pa_nil)) pa_nil)))))), ?_⟩
    refine ⟨_, rfl, a, ns, rfl, hS, hlen, fun d l H1 D1 s1 => ?_⟩
    refine ⟨_, rfl, _, rfl, d, l, 0, rfl, D1, by decide, fun r n ms es c2 H2 hc D2 rd hW => ?_⟩
    exact ⟨d, l, r, c2, n, ms, es, rfl, D2, by omega, rd, hW, q⟩
end
end SG

namespace SG
open PySem PySem.Spec PyProof.Rows L2
theorem kwOne_args {α : Type} {us ws : List α} (h : (kwOne us ws).length = 1) : ∃ x, us = [] ∧ ws = [x] := by
  match us, ws, h with
  | [], [x], _ => exact ⟨x, rfl, rfl⟩
  | [], [], h => exact absurd h (by simp [kwOne])
  | [], _ :: _ :: _, h => exact absurd h (by simp [kwOne])
  | _ :: _, _, h => exact absurd h (by simp [kwOne])
theorem kwTurn_args {α : Type} {us ws : List α} (h : (kwTurn us ws).length = 2) : ∃ x y, us = [] ∧ ws = [x, y] := by
  match us, ws, h with
  | [], [x, y], _ => exact ⟨x, y, rfl, rfl⟩
  | [], [], h => exact absurd h (by simp [kwTurn])
  | [], [_], h => exact absurd h (by simp [kwTurn])
  | [], _ :: _ :: _ :: _, h => exact absurd h (by simp [kwTurn])
  | _ :: _, _, h => exact absurd h (by simp [kwTurn])
theorem exm_self {K : PySem.W.Frag} {S : Addr} (h1 : PySem.W.subIn K (.ref S) (.type "BaseException") = some true) (h2 : PySem.W.isClsIn K S = true) (h3 : PySem.W.typeIn K (.ref S) = some (.type "type")) (h4 : PySem.W.subIn K (.ref S) (.ref S) = some true) :
    PySem.W.exmOne K (.ref S) (.ref S) = some true := by
  have h2 : (PySem.W.clsIn K S).isSome = true := h2
  simp only [PySem.W.exmOne, PySem.W.kitCls, h1, h2, h3, h4]
  rfl
theorem kit_self {K : PySem.W.Frag} (c : Value) : PySem.W.kitOne K c c = some true := by
  unfold PySem.W.kitOne
  simp
theorem kit_sub {K : PySem.W.Frag} {t : Value} {C : Addr} (h2 : PySem.W.isClsIn K C = true) (h3 : PySem.W.typeIn K (.ref C) = some (.type "type")) (h4 : PySem.W.subIn K t (.ref C) = some true) : PySem.W.kitOne K t (.ref C) = some true := by
  have h2 : (PySem.W.clsIn K C).isSome = true := h2
  simp only [PySem.W.kitOne, PySem.W.kitCls, h2, h3, h4]
  split <;> rfl
theorem kit_not {K : PySem.W.Frag} {t : Value} {C : Addr} (h2 : PySem.W.isClsIn K C = true) (h3 : PySem.W.typeIn K (.ref C) = some (.type "type")) (h4 : PySem.W.subIn K t (.ref C) = some false) (h : (t == .ref C) = false) : PySem.W.kitOne K t (.ref C) = some false := by
  have h2 : (PySem.W.clsIn K C).isSome = true := h2
  simp only [PySem.W.kitOne, PySem.W.kitCls, h2, h3, h4, h]
  rfl
theorem isFn_type {K : PySem.W.Frag} {v : Value} (h : PySem.W.isFn K v = true) : PySem.W.typeIn K v = some (.type "function") := by
  unfold PySem.W.isFn at h
  simpa using h
set_option maxHeartbeats 4000000 in
theorem all_mk {l : PySem.W.OpenLaw} {w : World} {K : PySem.W.Frag} {h : Heap} {mg : Str → Option Value} {fa f_goals_by_state f_counts_at_ends f_longer f_is_integer f_is_below f_is_ascending f_is_tuple_of f_useful_moves f_is_endless f_is_letter f_is_word f_number_of f_how_many_ahead f_many_to f_how_many f_has_number f_word_at f_told_word f_step f_wrong_part f_is_move f_are_moves f_are_single f_are_ends f_reached f_met_states f_live_states f_useful_states f_goal_table f__law_deck f__law_draw f__law_pick f__law_far f__law_form f__law_code f__law_table f__law_led f__law_is_endless f__law_at f__law_heard f__law_due f__law_right f_law f_NotIn___init__ f_TooLong___init__ f_Layers___init__ f_Layers_at f_Layers_count_of f_Layers_shorter f_Layers_weights f_Layers_lesser f_Layers_word_of f_Layers_place_of f_Sheet___init__ f_Format___init__ f_Format_step f_Format_led f_Format_is_end f_Format_has : Addr} (X : K.In h) (G : h.Ns mainGlobals mg) (hfa : mg "law" = some (.ref fa))
    {C_Format C_Sheet C_Layers C_NotIn C_TooLong C_SerialError NN NT : Addr} {nmN qN : Str} {bsN : List Value} {snN : List Str} {subN : List Value} {abN : Bool} {colN : Option Bool} {ddN : Option Addr} {m0N m1N m2N m3N m5N : Option Value} {nmT qT : Str} {bsT : List Value} {snT : List Str} {subT : List Value} {abT : Bool} {colT : Option Bool} {ddT : Option Addr} {m0T m1T m2T m3T m5T : Option Value}
    {od_goals_by_state an_goals_by_state od_counts_at_ends an_counts_at_ends od_longer an_longer od_is_integer an_is_integer od_is_below an_is_below od_is_ascending an_is_ascending od_is_tuple_of an_is_tuple_of od_useful_moves an_useful_moves od_is_endless an_is_endless od_is_letter an_is_letter od_is_word an_is_word od_number_of an_number_of od_how_many_ahead an_how_many_ahead od_many_to an_many_to od_how_many an_how_many od_has_number an_has_number od_word_at an_word_at od_told_word an_told_word od_step an_step od_wrong_part an_wrong_part od_is_move an_is_move od_are_moves an_are_moves od_are_single an_are_single od_are_ends an_are_ends od_reached an_reached od_met_states an_met_states od_live_states an_live_states od_useful_states an_useful_states od_goal_table an_goal_table od__law_deck an__law_deck od__law_draw an__law_draw od__law_pick an__law_pick od__law_far an__law_far od__law_form an__law_form od__law_code an__law_code od__law_table an__law_table od__law_led an__law_led od__law_is_endless an__law_is_endless od__law_at an__law_at od__law_heard an__law_heard od__law_due an__law_due od__law_right an__law_right od_law an_law od_NotIn___init__ an_NotIn___init__ od_TooLong___init__ an_TooLong___init__ od_Layers___init__ an_Layers___init__ od_Layers_at an_Layers_at od_Layers_count_of an_Layers_count_of od_Layers_shorter an_Layers_shorter od_Layers_weights an_Layers_weights od_Layers_lesser an_Layers_lesser od_Layers_word_of an_Layers_word_of od_Layers_place_of an_Layers_place_of od_Sheet___init__ an_Sheet___init__ od_Format___init__ an_Format___init__ od_Format_step an_Format_step od_Format_led an_Format_led od_Format_is_end an_Format_is_end od_Format_has an_Format_has : Option Addr} {sl_goals_by_state sl_counts_at_ends sl_longer sl_is_integer sl_is_below sl_is_ascending sl_is_tuple_of sl_useful_moves sl_is_endless sl_is_letter sl_is_word sl_number_of sl_how_many_ahead sl_many_to sl_how_many sl_has_number sl_word_at sl_told_word sl_step sl_wrong_part sl_is_move sl_are_moves sl_are_single sl_are_ends sl_reached sl_met_states sl_live_states sl_useful_states sl_goal_table sl__law_deck sl__law_draw sl__law_pick sl__law_far sl__law_form sl__law_code sl__law_table sl__law_led sl__law_is_endless sl__law_at sl__law_heard sl__law_due sl__law_right sl_law sl_NotIn___init__ sl_TooLong___init__ sl_Layers___init__ sl_Layers_at sl_Layers_count_of sl_Layers_shorter sl_Layers_weights sl_Layers_lesser sl_Layers_word_of sl_Layers_place_of sl_Sheet___init__ sl_Format___init__ sl_Format_step sl_Format_led sl_Format_is_end sl_Format_has : Array (Option Value)} {oc_goals_by_state kV_goals_by_state dc_goals_by_state pm_goals_by_state cd_goals_by_state ct_goals_by_state oc_counts_at_ends kV_counts_at_ends dc_counts_at_ends pm_counts_at_ends cd_counts_at_ends ct_counts_at_ends oc_longer kV_longer dc_longer pm_longer cd_longer ct_longer oc_is_integer kV_is_integer dc_is_integer pm_is_integer cd_is_integer ct_is_integer oc_is_below kV_is_below dc_is_below pm_is_below cd_is_below ct_is_below oc_is_ascending kV_is_ascending dc_is_ascending pm_is_ascending cd_is_ascending ct_is_ascending oc_is_tuple_of kV_is_tuple_of dc_is_tuple_of pm_is_tuple_of cd_is_tuple_of ct_is_tuple_of oc_useful_moves kV_useful_moves dc_useful_moves pm_useful_moves cd_useful_moves ct_useful_moves oc_is_endless kV_is_endless dc_is_endless pm_is_endless cd_is_endless ct_is_endless oc_is_letter kV_is_letter dc_is_letter pm_is_letter cd_is_letter ct_is_letter oc_is_word kV_is_word dc_is_word pm_is_word cd_is_word ct_is_word oc_number_of kV_number_of dc_number_of pm_number_of cd_number_of ct_number_of oc_how_many_ahead kV_how_many_ahead dc_how_many_ahead pm_how_many_ahead cd_how_many_ahead ct_how_many_ahead oc_many_to kV_many_to dc_many_to pm_many_to cd_many_to ct_many_to oc_how_many kV_how_many dc_how_many pm_how_many cd_how_many ct_how_many oc_has_number kV_has_number dc_has_number pm_has_number cd_has_number ct_has_number oc_word_at kV_word_at dc_word_at pm_word_at cd_word_at ct_word_at oc_told_word kV_told_word dc_told_word pm_told_word cd_told_word ct_told_word oc_step kV_step dc_step pm_step cd_step ct_step oc_wrong_part kV_wrong_part dc_wrong_part pm_wrong_part cd_wrong_part ct_wrong_part oc_is_move kV_is_move dc_is_move pm_is_move cd_is_move ct_is_move oc_are_moves kV_are_moves dc_are_moves pm_are_moves cd_are_moves ct_are_moves oc_are_single kV_are_single dc_are_single pm_are_single cd_are_single ct_are_single oc_are_ends kV_are_ends dc_are_ends pm_are_ends cd_are_ends ct_are_ends oc_reached kV_reached dc_reached pm_reached cd_reached ct_reached oc_met_states kV_met_states dc_met_states pm_met_states cd_met_states ct_met_states oc_live_states kV_live_states dc_live_states pm_live_states cd_live_states ct_live_states oc_useful_states kV_useful_states dc_useful_states pm_useful_states cd_useful_states ct_useful_states oc_goal_table kV_goal_table dc_goal_table pm_goal_table cd_goal_table ct_goal_table oc__law_deck kV__law_deck dc__law_deck pm__law_deck cd__law_deck ct__law_deck oc__law_draw kV__law_draw dc__law_draw pm__law_draw cd__law_draw ct__law_draw oc__law_pick kV__law_pick dc__law_pick pm__law_pick cd__law_pick ct__law_pick oc__law_far kV__law_far dc__law_far pm__law_far cd__law_far ct__law_far oc__law_form kV__law_form dc__law_form pm__law_form cd__law_form ct__law_form oc__law_code kV__law_code dc__law_code pm__law_code cd__law_code ct__law_code oc__law_table kV__law_table dc__law_table pm__law_table cd__law_table ct__law_table oc__law_led kV__law_led dc__law_led pm__law_led cd__law_led ct__law_led oc__law_is_endless kV__law_is_endless dc__law_is_endless pm__law_is_endless cd__law_is_endless ct__law_is_endless oc__law_at kV__law_at dc__law_at pm__law_at cd__law_at ct__law_at oc__law_heard kV__law_heard dc__law_heard pm__law_heard cd__law_heard ct__law_heard oc__law_due kV__law_due dc__law_due pm__law_due cd__law_due ct__law_due oc__law_right kV__law_right dc__law_right pm__law_right cd__law_right ct__law_right oc_law kV_law dc_law pm_law cd_law ct_law oc_NotIn___init__ kV_NotIn___init__ dc_NotIn___init__ pm_NotIn___init__ cd_NotIn___init__ ct_NotIn___init__ oc_TooLong___init__ kV_TooLong___init__ dc_TooLong___init__ pm_TooLong___init__ cd_TooLong___init__ ct_TooLong___init__ oc_Layers___init__ kV_Layers___init__ dc_Layers___init__ pm_Layers___init__ cd_Layers___init__ ct_Layers___init__ oc_Layers_at kV_Layers_at dc_Layers_at pm_Layers_at cd_Layers_at ct_Layers_at oc_Layers_count_of kV_Layers_count_of dc_Layers_count_of pm_Layers_count_of cd_Layers_count_of ct_Layers_count_of oc_Layers_shorter kV_Layers_shorter dc_Layers_shorter pm_Layers_shorter cd_Layers_shorter ct_Layers_shorter oc_Layers_weights kV_Layers_weights dc_Layers_weights pm_Layers_weights cd_Layers_weights ct_Layers_weights oc_Layers_lesser kV_Layers_lesser dc_Layers_lesser pm_Layers_lesser cd_Layers_lesser ct_Layers_lesser oc_Layers_word_of kV_Layers_word_of dc_Layers_word_of pm_Layers_word_of cd_Layers_word_of ct_Layers_word_of oc_Layers_place_of kV_Layers_place_of dc_Layers_place_of pm_Layers_place_of cd_Layers_place_of ct_Layers_place_of oc_Sheet___init__ kV_Sheet___init__ dc_Sheet___init__ pm_Sheet___init__ cd_Sheet___init__ ct_Sheet___init__ oc_Format___init__ kV_Format___init__ dc_Format___init__ pm_Format___init__ cd_Format___init__ ct_Format___init__ oc_Format_step kV_Format_step dc_Format_step pm_Format_step cd_Format_step ct_Format_step oc_Format_led kV_Format_led dc_Format_led pm_Format_led cd_Format_led ct_Format_led oc_Format_is_end kV_Format_is_end dc_Format_is_end pm_Format_is_end cd_Format_is_end ct_Format_is_end oc_Format_has kV_Format_has dc_Format_has pm_Format_has cd_Format_has ct_Format_has : Value}
    (g_Format : PySem.W.nsIn K mainGlobals "Format" = some (some (.ref C_Format)))
    (g_Sheet : PySem.W.nsIn K mainGlobals "Sheet" = some (some (.ref C_Sheet)))
    (g_Layers : PySem.W.nsIn K mainGlobals "Layers" = some (some (.ref C_Layers)))
    (g_NotIn : PySem.W.nsIn K mainGlobals "NotIn" = some (some (.ref C_NotIn)))
    (g_TooLong : PySem.W.nsIn K mainGlobals "TooLong" = some (some (.ref C_TooLong)))
    (g_SerialError : PySem.W.nsIn K mainGlobals "SerialError" = some (some (.ref C_SerialError)))
    (p_pg : PySem.W.plainGet K C_Format Str.empty = true)
    (p_hd : PySem.W.hasDictIn K C_Format = true)
    (p_po : PySem.W.plainOver K C_Format = true)
    (p_sa : PySem.W.findIn K (.ref C_Format) "__setattr__" = some (some (.builtin "object.__setattr__")))
    (p_mk : PySem.W.makesIn K C_Format = true)
    (p_kc : PySem.W.keepIn K (.ref C_Format) = true)
    (q_pg : PySem.W.plainGet K C_Sheet Str.empty = true)
    (q_hd : PySem.W.hasDictIn K C_Sheet = true)
    (q_po : PySem.W.plainOver K C_Sheet = true)
    (q_sa : PySem.W.findIn K (.ref C_Sheet) "__setattr__" = some (some (.builtin "object.__setattr__")))
    (q_mk : PySem.W.makesIn K C_Sheet = true)
    (q_kc : PySem.W.keepIn K (.ref C_Sheet) = true)
    (y_pg : PySem.W.plainGet K C_Layers Str.empty = true)
    (y_hd : PySem.W.hasDictIn K C_Layers = true)
    (y_po : PySem.W.plainOver K C_Layers = true)
    (y_sa : PySem.W.findIn K (.ref C_Layers) "__setattr__" = some (some (.builtin "object.__setattr__")))
    (y_mk : PySem.W.makesIn K C_Layers = true)
    (y_kc : PySem.W.keepIn K (.ref C_Layers) = true)
    (p_nsize : PySem.W.findIn K (.ref C_Format) "size" = some none)
    (p_nmoves : PySem.W.findIn K (.ref C_Format) "moves" = some none)
    (p_nends : PySem.W.findIn K (.ref C_Format) "ends" = some none)
    (p_nsheet : PySem.W.findIn K (.ref C_Format) "sheet" = some none)
    (p_nletters : PySem.W.findIn K (.ref C_Format) "letters" = some none)
    (p_nuseful : PySem.W.findIn K (.ref C_Format) "useful" = some none)
    (p_n_goals : PySem.W.findIn K (.ref C_Format) "_goals" = some none)
    (p_n_ends : PySem.W.findIn K (.ref C_Format) "_ends" = some none)
    (q_nsize : PySem.W.findIn K (.ref C_Sheet) "size" = some none)
    (q_nmoves : PySem.W.findIn K (.ref C_Sheet) "moves" = some none)
    (q_nends : PySem.W.findIn K (.ref C_Sheet) "ends" = some none)
    (q_nletters : PySem.W.findIn K (.ref C_Sheet) "letters" = some none)
    (q_n_goals : PySem.W.findIn K (.ref C_Sheet) "_goals" = some none)
    (q_n_ends : PySem.W.findIn K (.ref C_Sheet) "_ends" = some none)
    (y_nform : PySem.W.findIn K (.ref C_Layers) "form" = some none)
    (y_ngoal_rows : PySem.W.findIn K (.ref C_Layers) "goal_rows" = some none)
    (y_nlayers : PySem.W.findIn K (.ref C_Layers) "layers" = some none)
    (y_nmoves : PySem.W.findIn K (.ref C_Layers) "moves" = some none)
    (n_x : K.lookup C_NotIn = some (excClassObj nmN qN C_NotIn NN bsN [.ref C_SerialError, .type "Exception", .type "BaseException", .type "object"] true snN subN abN colN ddN m0N m1N m2N m3N m5N "Exception.__new__"))
    (n_sa : PySem.W.findIn K (.ref C_NotIn) "__setattr__" = some (some (.builtin "object.__setattr__")))
    (n_ga : PySem.W.findIn K (.ref C_NotIn) "__getattribute__" = some (some (.builtin "BaseException.__getattribute__")))
    (n_gg : PySem.W.findIn K (.ref C_NotIn) "__getattr__" = some none)
    (n_at : PySem.W.findIn K (.ref C_NotIn) "word" = some none)
    (n_k : PySem.W.keepIn K (.ref C_NotIn) = true)
    (n_s : PySem.W.subIn K (.ref C_NotIn) (.type "BaseException") = some true)
    (n_t : PySem.W.typeIn K (.ref C_NotIn) = some (.type "type"))
    (n_hd : PySem.W.hasDictIn K C_NotIn = true)
    (n_ic : PySem.W.isClsIn K C_NotIn = true)
    (n_self : PySem.W.subIn K (.ref C_NotIn) (.ref C_NotIn) = some true)
    (t_x : K.lookup C_TooLong = some (excClassObj nmT qT C_TooLong NT bsT [.ref C_SerialError, .type "Exception", .type "BaseException", .type "object"] true snT subT abT colT ddT m0T m1T m2T m3T m5T "Exception.__new__"))
    (t_sa : PySem.W.findIn K (.ref C_TooLong) "__setattr__" = some (some (.builtin "object.__setattr__")))
    (t_ga : PySem.W.findIn K (.ref C_TooLong) "__getattribute__" = some (some (.builtin "BaseException.__getattribute__")))
    (t_gg : PySem.W.findIn K (.ref C_TooLong) "__getattr__" = some none)
    (t_at : PySem.W.findIn K (.ref C_TooLong) "most" = some none)
    (t_k : PySem.W.keepIn K (.ref C_TooLong) = true)
    (t_s : PySem.W.subIn K (.ref C_TooLong) (.type "BaseException") = some true)
    (t_t : PySem.W.typeIn K (.ref C_TooLong) = some (.type "type"))
    (t_hd : PySem.W.hasDictIn K C_TooLong = true)
    (t_ic : PySem.W.isClsIn K C_TooLong = true)
    (t_self : PySem.W.subIn K (.ref C_TooLong) (.ref C_TooLong) = some true)
    (nt_sub : PySem.W.subIn K (.ref C_NotIn) (.ref C_TooLong) = some false)
    (a_NotIn___init__ : PySem.W.findIn K (.ref C_NotIn) "__init__" = some (some (.ref f_NotIn___init__))) (i_NotIn___init__ : PySem.W.isFn K (.ref f_NotIn___init__) = true) (l_NotIn___init__ : K.lookup f_NotIn___init__ = some ⟨oc_NotIn___init__, od_NotIn___init__, .func (PySem.W.fnOf "__init__" "NotIn.__init__" (defArgs s_NotIn___init__) (defBody s_NotIn___init__) (defScope s_NotIn___init__) .none kV_NotIn___init__ dc_NotIn___init__ pm_NotIn___init__ an_NotIn___init__ cd_NotIn___init__ ct_NotIn___init__), sl_NotIn___init__⟩) (c_NotIn___init__ : PySem.W.codeIn K cd_NotIn___init__ "NotIn.__init__" = true) (k_NotIn___init__ : PySem.W.keepIn K (.ref f_NotIn___init__) = true)
    (a_TooLong___init__ : PySem.W.findIn K (.ref C_TooLong) "__init__" = some (some (.ref f_TooLong___init__))) (i_TooLong___init__ : PySem.W.isFn K (.ref f_TooLong___init__) = true) (l_TooLong___init__ : K.lookup f_TooLong___init__ = some ⟨oc_TooLong___init__, od_TooLong___init__, .func (PySem.W.fnOf "__init__" "TooLong.__init__" (defArgs s_TooLong___init__) (defBody s_TooLong___init__) (defScope s_TooLong___init__) .none kV_TooLong___init__ dc_TooLong___init__ pm_TooLong___init__ an_TooLong___init__ cd_TooLong___init__ ct_TooLong___init__), sl_TooLong___init__⟩) (c_TooLong___init__ : PySem.W.codeIn K cd_TooLong___init__ "TooLong.__init__" = true) (k_TooLong___init__ : PySem.W.keepIn K (.ref f_TooLong___init__) = true)
    (a_Layers___init__ : PySem.W.findIn K (.ref C_Layers) "__init__" = some (some (.ref f_Layers___init__))) (i_Layers___init__ : PySem.W.isFn K (.ref f_Layers___init__) = true) (l_Layers___init__ : K.lookup f_Layers___init__ = some ⟨oc_Layers___init__, od_Layers___init__, .func (PySem.W.fnOf "__init__" "Layers.__init__" (defArgs s_Layers___init__) (defBody s_Layers___init__) (defScope s_Layers___init__) .none kV_Layers___init__ dc_Layers___init__ pm_Layers___init__ an_Layers___init__ cd_Layers___init__ ct_Layers___init__), sl_Layers___init__⟩) (c_Layers___init__ : PySem.W.codeIn K cd_Layers___init__ "Layers.__init__" = true) (k_Layers___init__ : PySem.W.keepIn K (.ref f_Layers___init__) = true)
    (a_Layers_at : PySem.W.findIn K (.ref C_Layers) "at" = some (some (.ref f_Layers_at))) (i_Layers_at : PySem.W.isFn K (.ref f_Layers_at) = true) (l_Layers_at : K.lookup f_Layers_at = some ⟨oc_Layers_at, od_Layers_at, .func (PySem.W.fnOf "at" "Layers.at" (defArgs s_Layers_at) (defBody s_Layers_at) (defScope s_Layers_at) .none kV_Layers_at dc_Layers_at pm_Layers_at an_Layers_at cd_Layers_at ct_Layers_at), sl_Layers_at⟩) (c_Layers_at : PySem.W.codeIn K cd_Layers_at "Layers.at" = true) (k_Layers_at : PySem.W.keepIn K (.ref f_Layers_at) = true)
    (a_Layers_count_of : PySem.W.findIn K (.ref C_Layers) "count_of" = some (some (.ref f_Layers_count_of))) (i_Layers_count_of : PySem.W.isFn K (.ref f_Layers_count_of) = true) (l_Layers_count_of : K.lookup f_Layers_count_of = some ⟨oc_Layers_count_of, od_Layers_count_of, .func (PySem.W.fnOf "count_of" "Layers.count_of" (defArgs s_Layers_count_of) (defBody s_Layers_count_of) (defScope s_Layers_count_of) .none kV_Layers_count_of dc_Layers_count_of pm_Layers_count_of an_Layers_count_of cd_Layers_count_of ct_Layers_count_of), sl_Layers_count_of⟩) (c_Layers_count_of : PySem.W.codeIn K cd_Layers_count_of "Layers.count_of" = true) (k_Layers_count_of : PySem.W.keepIn K (.ref f_Layers_count_of) = true)
    (a_Layers_shorter : PySem.W.findIn K (.ref C_Layers) "shorter" = some (some (.ref f_Layers_shorter))) (i_Layers_shorter : PySem.W.isFn K (.ref f_Layers_shorter) = true) (l_Layers_shorter : K.lookup f_Layers_shorter = some ⟨oc_Layers_shorter, od_Layers_shorter, .func (PySem.W.fnOf "shorter" "Layers.shorter" (defArgs s_Layers_shorter) (defBody s_Layers_shorter) (defScope s_Layers_shorter) .none kV_Layers_shorter dc_Layers_shorter pm_Layers_shorter an_Layers_shorter cd_Layers_shorter ct_Layers_shorter), sl_Layers_shorter⟩) (c_Layers_shorter : PySem.W.codeIn K cd_Layers_shorter "Layers.shorter" = true) (k_Layers_shorter : PySem.W.keepIn K (.ref f_Layers_shorter) = true)
    (a_Layers_weights : PySem.W.findIn K (.ref C_Layers) "weights" = some (some (.ref f_Layers_weights))) (i_Layers_weights : PySem.W.isFn K (.ref f_Layers_weights) = true) (l_Layers_weights : K.lookup f_Layers_weights = some ⟨oc_Layers_weights, od_Layers_weights, .func (PySem.W.fnOf "weights" "Layers.weights" (defArgs s_Layers_weights) (defBody s_Layers_weights) (defScope s_Layers_weights) .none kV_Layers_weights dc_Layers_weights pm_Layers_weights an_Layers_weights cd_Layers_weights ct_Layers_weights), sl_Layers_weights⟩) (c_Layers_weights : PySem.W.codeIn K cd_Layers_weights "Layers.weights" = true) (k_Layers_weights : PySem.W.keepIn K (.ref f_Layers_weights) = true)
    (a_Layers_lesser : PySem.W.findIn K (.ref C_Layers) "lesser" = some (some (.ref f_Layers_lesser))) (i_Layers_lesser : PySem.W.isFn K (.ref f_Layers_lesser) = true) (l_Layers_lesser : K.lookup f_Layers_lesser = some ⟨oc_Layers_lesser, od_Layers_lesser, .func (PySem.W.fnOf "lesser" "Layers.lesser" (defArgs s_Layers_lesser) (defBody s_Layers_lesser) (defScope s_Layers_lesser) .none kV_Layers_lesser dc_Layers_lesser pm_Layers_lesser an_Layers_lesser cd_Layers_lesser ct_Layers_lesser), sl_Layers_lesser⟩) (c_Layers_lesser : PySem.W.codeIn K cd_Layers_lesser "Layers.lesser" = true) (k_Layers_lesser : PySem.W.keepIn K (.ref f_Layers_lesser) = true)
    (a_Layers_word_of : PySem.W.findIn K (.ref C_Layers) "word_of" = some (some (.ref f_Layers_word_of))) (i_Layers_word_of : PySem.W.isFn K (.ref f_Layers_word_of) = true) (l_Layers_word_of : K.lookup f_Layers_word_of = some ⟨oc_Layers_word_of, od_Layers_word_of, .func (PySem.W.fnOf "word_of" "Layers.word_of" (defArgs s_Layers_word_of) (defBody s_Layers_word_of) (defScope s_Layers_word_of) .none kV_Layers_word_of dc_Layers_word_of pm_Layers_word_of an_Layers_word_of cd_Layers_word_of ct_Layers_word_of), sl_Layers_word_of⟩) (c_Layers_word_of : PySem.W.codeIn K cd_Layers_word_of "Layers.word_of" = true) (k_Layers_word_of : PySem.W.keepIn K (.ref f_Layers_word_of) = true)
    (a_Layers_place_of : PySem.W.findIn K (.ref C_Layers) "place_of" = some (some (.ref f_Layers_place_of))) (i_Layers_place_of : PySem.W.isFn K (.ref f_Layers_place_of) = true) (l_Layers_place_of : K.lookup f_Layers_place_of = some ⟨oc_Layers_place_of, od_Layers_place_of, .func (PySem.W.fnOf "place_of" "Layers.place_of" (defArgs s_Layers_place_of) (defBody s_Layers_place_of) (defScope s_Layers_place_of) .none kV_Layers_place_of dc_Layers_place_of pm_Layers_place_of an_Layers_place_of cd_Layers_place_of ct_Layers_place_of), sl_Layers_place_of⟩) (c_Layers_place_of : PySem.W.codeIn K cd_Layers_place_of "Layers.place_of" = true) (k_Layers_place_of : PySem.W.keepIn K (.ref f_Layers_place_of) = true)
    (a_Sheet___init__ : PySem.W.findIn K (.ref C_Sheet) "__init__" = some (some (.ref f_Sheet___init__))) (i_Sheet___init__ : PySem.W.isFn K (.ref f_Sheet___init__) = true) (l_Sheet___init__ : K.lookup f_Sheet___init__ = some ⟨oc_Sheet___init__, od_Sheet___init__, .func (PySem.W.fnOf "__init__" "Sheet.__init__" (defArgs s_Sheet___init__) (defBody s_Sheet___init__) (defScope s_Sheet___init__) .none kV_Sheet___init__ dc_Sheet___init__ pm_Sheet___init__ an_Sheet___init__ cd_Sheet___init__ ct_Sheet___init__), sl_Sheet___init__⟩) (c_Sheet___init__ : PySem.W.codeIn K cd_Sheet___init__ "Sheet.__init__" = true) (k_Sheet___init__ : PySem.W.keepIn K (.ref f_Sheet___init__) = true)
    (a_Format___init__ : PySem.W.findIn K (.ref C_Format) "__init__" = some (some (.ref f_Format___init__))) (i_Format___init__ : PySem.W.isFn K (.ref f_Format___init__) = true) (l_Format___init__ : K.lookup f_Format___init__ = some ⟨oc_Format___init__, od_Format___init__, .func (PySem.W.fnOf "__init__" "Format.__init__" (defArgs s_Format___init__) (defBody s_Format___init__) (defScope s_Format___init__) .none kV_Format___init__ dc_Format___init__ pm_Format___init__ an_Format___init__ cd_Format___init__ ct_Format___init__), sl_Format___init__⟩) (c_Format___init__ : PySem.W.codeIn K cd_Format___init__ "Format.__init__" = true) (k_Format___init__ : PySem.W.keepIn K (.ref f_Format___init__) = true)
    (a_Format_step : PySem.W.findIn K (.ref C_Format) "step" = some (some (.ref f_Format_step))) (i_Format_step : PySem.W.isFn K (.ref f_Format_step) = true) (l_Format_step : K.lookup f_Format_step = some ⟨oc_Format_step, od_Format_step, .func (PySem.W.fnOf "step" "Format.step" (defArgs s_Format_step) (defBody s_Format_step) (defScope s_Format_step) .none kV_Format_step dc_Format_step pm_Format_step an_Format_step cd_Format_step ct_Format_step), sl_Format_step⟩) (c_Format_step : PySem.W.codeIn K cd_Format_step "Format.step" = true) (k_Format_step : PySem.W.keepIn K (.ref f_Format_step) = true)
    {aD_Format_led : Addr} {dD_Format_led : Option Addr} {nD_Format_led : Nat} {sD_Format_led : Array (Option Value)} {tD0_Format_led : Tok}
    (a_Format_led : PySem.W.findIn K (.ref C_Format) "led" = some (some (.ref f_Format_led))) (i_Format_led : PySem.W.isFn K (.ref f_Format_led) = true) (l_Format_led : K.lookup f_Format_led = some ⟨oc_Format_led, od_Format_led, .func (PySem.W.fnOf "led" "Format.led" (defArgs s_Format_led) (defBody s_Format_led) (defScope s_Format_led) (.ref aD_Format_led) kV_Format_led dc_Format_led pm_Format_led an_Format_led cd_Format_led ct_Format_led), sl_Format_led⟩) (c_Format_led : PySem.W.codeIn K cd_Format_led "Format.led" = true) (k_Format_led : PySem.W.keepIn K (.ref f_Format_led) = true)
    (x_Format_led : K.lookup aD_Format_led = some ⟨.type "tuple", dD_Format_led, .seq #[.int 0 tD0_Format_led] nD_Format_led, sD_Format_led⟩)
    (a_Format_is_end : PySem.W.findIn K (.ref C_Format) "is_end" = some (some (.ref f_Format_is_end))) (i_Format_is_end : PySem.W.isFn K (.ref f_Format_is_end) = true) (l_Format_is_end : K.lookup f_Format_is_end = some ⟨oc_Format_is_end, od_Format_is_end, .func (PySem.W.fnOf "is_end" "Format.is_end" (defArgs s_Format_is_end) (defBody s_Format_is_end) (defScope s_Format_is_end) .none kV_Format_is_end dc_Format_is_end pm_Format_is_end an_Format_is_end cd_Format_is_end ct_Format_is_end), sl_Format_is_end⟩) (c_Format_is_end : PySem.W.codeIn K cd_Format_is_end "Format.is_end" = true) (k_Format_is_end : PySem.W.keepIn K (.ref f_Format_is_end) = true)
    (a_Format_has : PySem.W.findIn K (.ref C_Format) "has" = some (some (.ref f_Format_has))) (i_Format_has : PySem.W.isFn K (.ref f_Format_has) = true) (l_Format_has : K.lookup f_Format_has = some ⟨oc_Format_has, od_Format_has, .func (PySem.W.fnOf "has" "Format.has" (defArgs s_Format_has) (defBody s_Format_has) (defScope s_Format_has) .none kV_Format_has dc_Format_has pm_Format_has an_Format_has cd_Format_has ct_Format_has), sl_Format_has⟩) (c_Format_has : PySem.W.codeIn K cd_Format_has "Format.has" = true) (k_Format_has : PySem.W.keepIn K (.ref f_Format_has) = true)
    (a_goals_by_state : PySem.W.nsIn K mainGlobals "goals_by_state" = some (some (.ref f_goals_by_state))) (l_goals_by_state : K.lookup f_goals_by_state = some ⟨oc_goals_by_state, od_goals_by_state, .func (PySem.W.fnOf "goals_by_state" "goals_by_state" (defArgs s_goals_by_state) (defBody s_goals_by_state) (defScope s_goals_by_state) .none kV_goals_by_state dc_goals_by_state pm_goals_by_state an_goals_by_state cd_goals_by_state ct_goals_by_state), sl_goals_by_state⟩) (c_goals_by_state : PySem.W.codeIn K cd_goals_by_state "goals_by_state" = true) (k_goals_by_state : PySem.W.keepIn K (.ref f_goals_by_state) = true)
    (a_counts_at_ends : PySem.W.nsIn K mainGlobals "counts_at_ends" = some (some (.ref f_counts_at_ends))) (l_counts_at_ends : K.lookup f_counts_at_ends = some ⟨oc_counts_at_ends, od_counts_at_ends, .func (PySem.W.fnOf "counts_at_ends" "counts_at_ends" (defArgs s_counts_at_ends) (defBody s_counts_at_ends) (defScope s_counts_at_ends) .none kV_counts_at_ends dc_counts_at_ends pm_counts_at_ends an_counts_at_ends cd_counts_at_ends ct_counts_at_ends), sl_counts_at_ends⟩) (c_counts_at_ends : PySem.W.codeIn K cd_counts_at_ends "counts_at_ends" = true) (k_counts_at_ends : PySem.W.keepIn K (.ref f_counts_at_ends) = true)
    (a_longer : PySem.W.nsIn K mainGlobals "longer" = some (some (.ref f_longer))) (l_longer : K.lookup f_longer = some ⟨oc_longer, od_longer, .func (PySem.W.fnOf "longer" "longer" (defArgs s_longer) (defBody s_longer) (defScope s_longer) .none kV_longer dc_longer pm_longer an_longer cd_longer ct_longer), sl_longer⟩) (c_longer : PySem.W.codeIn K cd_longer "longer" = true) (k_longer : PySem.W.keepIn K (.ref f_longer) = true)
    (a_is_integer : PySem.W.nsIn K mainGlobals "is_integer" = some (some (.ref f_is_integer))) (l_is_integer : K.lookup f_is_integer = some ⟨oc_is_integer, od_is_integer, .func (PySem.W.fnOf "is_integer" "is_integer" (defArgs s_is_integer) (defBody s_is_integer) (defScope s_is_integer) .none kV_is_integer dc_is_integer pm_is_integer an_is_integer cd_is_integer ct_is_integer), sl_is_integer⟩) (c_is_integer : PySem.W.codeIn K cd_is_integer "is_integer" = true) (k_is_integer : PySem.W.keepIn K (.ref f_is_integer) = true)
    (a_is_below : PySem.W.nsIn K mainGlobals "is_below" = some (some (.ref f_is_below))) (l_is_below : K.lookup f_is_below = some ⟨oc_is_below, od_is_below, .func (PySem.W.fnOf "is_below" "is_below" (defArgs s_is_below) (defBody s_is_below) (defScope s_is_below) .none kV_is_below dc_is_below pm_is_below an_is_below cd_is_below ct_is_below), sl_is_below⟩) (c_is_below : PySem.W.codeIn K cd_is_below "is_below" = true) (k_is_below : PySem.W.keepIn K (.ref f_is_below) = true)
    (a_is_ascending : PySem.W.nsIn K mainGlobals "is_ascending" = some (some (.ref f_is_ascending))) (l_is_ascending : K.lookup f_is_ascending = some ⟨oc_is_ascending, od_is_ascending, .func (PySem.W.fnOf "is_ascending" "is_ascending" (defArgs s_is_ascending) (defBody s_is_ascending) (defScope s_is_ascending) .none kV_is_ascending dc_is_ascending pm_is_ascending an_is_ascending cd_is_ascending ct_is_ascending), sl_is_ascending⟩) (c_is_ascending : PySem.W.codeIn K cd_is_ascending "is_ascending" = true) (k_is_ascending : PySem.W.keepIn K (.ref f_is_ascending) = true)
    (a_is_tuple_of : PySem.W.nsIn K mainGlobals "is_tuple_of" = some (some (.ref f_is_tuple_of))) (l_is_tuple_of : K.lookup f_is_tuple_of = some ⟨oc_is_tuple_of, od_is_tuple_of, .func (PySem.W.fnOf "is_tuple_of" "is_tuple_of" (defArgs s_is_tuple_of) (defBody s_is_tuple_of) (defScope s_is_tuple_of) .none kV_is_tuple_of dc_is_tuple_of pm_is_tuple_of an_is_tuple_of cd_is_tuple_of ct_is_tuple_of), sl_is_tuple_of⟩) (c_is_tuple_of : PySem.W.codeIn K cd_is_tuple_of "is_tuple_of" = true) (k_is_tuple_of : PySem.W.keepIn K (.ref f_is_tuple_of) = true)
    (a_useful_moves : PySem.W.nsIn K mainGlobals "useful_moves" = some (some (.ref f_useful_moves))) (l_useful_moves : K.lookup f_useful_moves = some ⟨oc_useful_moves, od_useful_moves, .func (PySem.W.fnOf "useful_moves" "useful_moves" (defArgs s_useful_moves) (defBody s_useful_moves) (defScope s_useful_moves) .none kV_useful_moves dc_useful_moves pm_useful_moves an_useful_moves cd_useful_moves ct_useful_moves), sl_useful_moves⟩) (c_useful_moves : PySem.W.codeIn K cd_useful_moves "useful_moves" = true) (k_useful_moves : PySem.W.keepIn K (.ref f_useful_moves) = true)
    (a_is_endless : PySem.W.nsIn K mainGlobals "is_endless" = some (some (.ref f_is_endless))) (l_is_endless : K.lookup f_is_endless = some ⟨oc_is_endless, od_is_endless, .func (PySem.W.fnOf "is_endless" "is_endless" (defArgs s_is_endless) (defBody s_is_endless) (defScope s_is_endless) .none kV_is_endless dc_is_endless pm_is_endless an_is_endless cd_is_endless ct_is_endless), sl_is_endless⟩) (c_is_endless : PySem.W.codeIn K cd_is_endless "is_endless" = true) (k_is_endless : PySem.W.keepIn K (.ref f_is_endless) = true)
    (a_is_letter : PySem.W.nsIn K mainGlobals "is_letter" = some (some (.ref f_is_letter))) (l_is_letter : K.lookup f_is_letter = some ⟨oc_is_letter, od_is_letter, .func (PySem.W.fnOf "is_letter" "is_letter" (defArgs s_is_letter) (defBody s_is_letter) (defScope s_is_letter) .none kV_is_letter dc_is_letter pm_is_letter an_is_letter cd_is_letter ct_is_letter), sl_is_letter⟩) (c_is_letter : PySem.W.codeIn K cd_is_letter "is_letter" = true) (k_is_letter : PySem.W.keepIn K (.ref f_is_letter) = true)
    (a_is_word : PySem.W.nsIn K mainGlobals "is_word" = some (some (.ref f_is_word))) (l_is_word : K.lookup f_is_word = some ⟨oc_is_word, od_is_word, .func (PySem.W.fnOf "is_word" "is_word" (defArgs s_is_word) (defBody s_is_word) (defScope s_is_word) .none kV_is_word dc_is_word pm_is_word an_is_word cd_is_word ct_is_word), sl_is_word⟩) (c_is_word : PySem.W.codeIn K cd_is_word "is_word" = true) (k_is_word : PySem.W.keepIn K (.ref f_is_word) = true)
    (a_number_of : PySem.W.nsIn K mainGlobals "number_of" = some (some (.ref f_number_of))) (l_number_of : K.lookup f_number_of = some ⟨oc_number_of, od_number_of, .func (PySem.W.fnOf "number_of" "number_of" (defArgs s_number_of) (defBody s_number_of) (defScope s_number_of) .none kV_number_of dc_number_of pm_number_of an_number_of cd_number_of ct_number_of), sl_number_of⟩) (c_number_of : PySem.W.codeIn K cd_number_of "number_of" = true) (k_number_of : PySem.W.keepIn K (.ref f_number_of) = true)
    (a_how_many_ahead : PySem.W.nsIn K mainGlobals "how_many_ahead" = some (some (.ref f_how_many_ahead))) (l_how_many_ahead : K.lookup f_how_many_ahead = some ⟨oc_how_many_ahead, od_how_many_ahead, .func (PySem.W.fnOf "how_many_ahead" "how_many_ahead" (defArgs s_how_many_ahead) (defBody s_how_many_ahead) (defScope s_how_many_ahead) .none kV_how_many_ahead dc_how_many_ahead pm_how_many_ahead an_how_many_ahead cd_how_many_ahead ct_how_many_ahead), sl_how_many_ahead⟩) (c_how_many_ahead : PySem.W.codeIn K cd_how_many_ahead "how_many_ahead" = true) (k_how_many_ahead : PySem.W.keepIn K (.ref f_how_many_ahead) = true)
    (a_many_to : PySem.W.nsIn K mainGlobals "many_to" = some (some (.ref f_many_to))) (l_many_to : K.lookup f_many_to = some ⟨oc_many_to, od_many_to, .func (PySem.W.fnOf "many_to" "many_to" (defArgs s_many_to) (defBody s_many_to) (defScope s_many_to) .none kV_many_to dc_many_to pm_many_to an_many_to cd_many_to ct_many_to), sl_many_to⟩) (c_many_to : PySem.W.codeIn K cd_many_to "many_to" = true) (k_many_to : PySem.W.keepIn K (.ref f_many_to) = true)
    (a_how_many : PySem.W.nsIn K mainGlobals "how_many" = some (some (.ref f_how_many))) (l_how_many : K.lookup f_how_many = some ⟨oc_how_many, od_how_many, .func (PySem.W.fnOf "how_many" "how_many" (defArgs s_how_many) (defBody s_how_many) (defScope s_how_many) .none kV_how_many dc_how_many pm_how_many an_how_many cd_how_many ct_how_many), sl_how_many⟩) (c_how_many : PySem.W.codeIn K cd_how_many "how_many" = true) (k_how_many : PySem.W.keepIn K (.ref f_how_many) = true)
    (a_has_number : PySem.W.nsIn K mainGlobals "has_number" = some (some (.ref f_has_number))) (l_has_number : K.lookup f_has_number = some ⟨oc_has_number, od_has_number, .func (PySem.W.fnOf "has_number" "has_number" (defArgs s_has_number) (defBody s_has_number) (defScope s_has_number) .none kV_has_number dc_has_number pm_has_number an_has_number cd_has_number ct_has_number), sl_has_number⟩) (c_has_number : PySem.W.codeIn K cd_has_number "has_number" = true) (k_has_number : PySem.W.keepIn K (.ref f_has_number) = true)
    (a_word_at : PySem.W.nsIn K mainGlobals "word_at" = some (some (.ref f_word_at))) (l_word_at : K.lookup f_word_at = some ⟨oc_word_at, od_word_at, .func (PySem.W.fnOf "word_at" "word_at" (defArgs s_word_at) (defBody s_word_at) (defScope s_word_at) .none kV_word_at dc_word_at pm_word_at an_word_at cd_word_at ct_word_at), sl_word_at⟩) (c_word_at : PySem.W.codeIn K cd_word_at "word_at" = true) (k_word_at : PySem.W.keepIn K (.ref f_word_at) = true)
    (a_told_word : PySem.W.nsIn K mainGlobals "told_word" = some (some (.ref f_told_word))) (l_told_word : K.lookup f_told_word = some ⟨oc_told_word, od_told_word, .func (PySem.W.fnOf "told_word" "told_word" (defArgs s_told_word) (defBody s_told_word) (defScope s_told_word) .none kV_told_word dc_told_word pm_told_word an_told_word cd_told_word ct_told_word), sl_told_word⟩) (c_told_word : PySem.W.codeIn K cd_told_word "told_word" = true) (k_told_word : PySem.W.keepIn K (.ref f_told_word) = true)
    (a_step : PySem.W.nsIn K mainGlobals "step" = some (some (.ref f_step))) (l_step : K.lookup f_step = some ⟨oc_step, od_step, .func (PySem.W.fnOf "step" "step" (defArgs s_step) (defBody s_step) (defScope s_step) .none kV_step dc_step pm_step an_step cd_step ct_step), sl_step⟩) (c_step : PySem.W.codeIn K cd_step "step" = true) (k_step : PySem.W.keepIn K (.ref f_step) = true)
    (a_wrong_part : PySem.W.nsIn K mainGlobals "wrong_part" = some (some (.ref f_wrong_part))) (l_wrong_part : K.lookup f_wrong_part = some ⟨oc_wrong_part, od_wrong_part, .func (PySem.W.fnOf "wrong_part" "wrong_part" (defArgs s_wrong_part) (defBody s_wrong_part) (defScope s_wrong_part) .none kV_wrong_part dc_wrong_part pm_wrong_part an_wrong_part cd_wrong_part ct_wrong_part), sl_wrong_part⟩) (c_wrong_part : PySem.W.codeIn K cd_wrong_part "wrong_part" = true) (k_wrong_part : PySem.W.keepIn K (.ref f_wrong_part) = true)
    (a_is_move : PySem.W.nsIn K mainGlobals "is_move" = some (some (.ref f_is_move))) (l_is_move : K.lookup f_is_move = some ⟨oc_is_move, od_is_move, .func (PySem.W.fnOf "is_move" "is_move" (defArgs s_is_move) (defBody s_is_move) (defScope s_is_move) .none kV_is_move dc_is_move pm_is_move an_is_move cd_is_move ct_is_move), sl_is_move⟩) (c_is_move : PySem.W.codeIn K cd_is_move "is_move" = true) (k_is_move : PySem.W.keepIn K (.ref f_is_move) = true)
    (a_are_moves : PySem.W.nsIn K mainGlobals "are_moves" = some (some (.ref f_are_moves))) (l_are_moves : K.lookup f_are_moves = some ⟨oc_are_moves, od_are_moves, .func (PySem.W.fnOf "are_moves" "are_moves" (defArgs s_are_moves) (defBody s_are_moves) (defScope s_are_moves) .none kV_are_moves dc_are_moves pm_are_moves an_are_moves cd_are_moves ct_are_moves), sl_are_moves⟩) (c_are_moves : PySem.W.codeIn K cd_are_moves "are_moves" = true) (k_are_moves : PySem.W.keepIn K (.ref f_are_moves) = true)
    (a_are_single : PySem.W.nsIn K mainGlobals "are_single" = some (some (.ref f_are_single))) (l_are_single : K.lookup f_are_single = some ⟨oc_are_single, od_are_single, .func (PySem.W.fnOf "are_single" "are_single" (defArgs s_are_single) (defBody s_are_single) (defScope s_are_single) .none kV_are_single dc_are_single pm_are_single an_are_single cd_are_single ct_are_single), sl_are_single⟩) (c_are_single : PySem.W.codeIn K cd_are_single "are_single" = true) (k_are_single : PySem.W.keepIn K (.ref f_are_single) = true)
    (a_are_ends : PySem.W.nsIn K mainGlobals "are_ends" = some (some (.ref f_are_ends))) (l_are_ends : K.lookup f_are_ends = some ⟨oc_are_ends, od_are_ends, .func (PySem.W.fnOf "are_ends" "are_ends" (defArgs s_are_ends) (defBody s_are_ends) (defScope s_are_ends) .none kV_are_ends dc_are_ends pm_are_ends an_are_ends cd_are_ends ct_are_ends), sl_are_ends⟩) (c_are_ends : PySem.W.codeIn K cd_are_ends "are_ends" = true) (k_are_ends : PySem.W.keepIn K (.ref f_are_ends) = true)
    (a_reached : PySem.W.nsIn K mainGlobals "reached" = some (some (.ref f_reached))) (l_reached : K.lookup f_reached = some ⟨oc_reached, od_reached, .func (PySem.W.fnOf "reached" "reached" (defArgs s_reached) (defBody s_reached) (defScope s_reached) .none kV_reached dc_reached pm_reached an_reached cd_reached ct_reached), sl_reached⟩) (c_reached : PySem.W.codeIn K cd_reached "reached" = true) (k_reached : PySem.W.keepIn K (.ref f_reached) = true)
    (a_met_states : PySem.W.nsIn K mainGlobals "met_states" = some (some (.ref f_met_states))) (l_met_states : K.lookup f_met_states = some ⟨oc_met_states, od_met_states, .func (PySem.W.fnOf "met_states" "met_states" (defArgs s_met_states) (defBody s_met_states) (defScope s_met_states) .none kV_met_states dc_met_states pm_met_states an_met_states cd_met_states ct_met_states), sl_met_states⟩) (c_met_states : PySem.W.codeIn K cd_met_states "met_states" = true) (k_met_states : PySem.W.keepIn K (.ref f_met_states) = true)
    (a_live_states : PySem.W.nsIn K mainGlobals "live_states" = some (some (.ref f_live_states))) (l_live_states : K.lookup f_live_states = some ⟨oc_live_states, od_live_states, .func (PySem.W.fnOf "live_states" "live_states" (defArgs s_live_states) (defBody s_live_states) (defScope s_live_states) .none kV_live_states dc_live_states pm_live_states an_live_states cd_live_states ct_live_states), sl_live_states⟩) (c_live_states : PySem.W.codeIn K cd_live_states "live_states" = true) (k_live_states : PySem.W.keepIn K (.ref f_live_states) = true)
    (a_useful_states : PySem.W.nsIn K mainGlobals "useful_states" = some (some (.ref f_useful_states))) (l_useful_states : K.lookup f_useful_states = some ⟨oc_useful_states, od_useful_states, .func (PySem.W.fnOf "useful_states" "useful_states" (defArgs s_useful_states) (defBody s_useful_states) (defScope s_useful_states) .none kV_useful_states dc_useful_states pm_useful_states an_useful_states cd_useful_states ct_useful_states), sl_useful_states⟩) (c_useful_states : PySem.W.codeIn K cd_useful_states "useful_states" = true) (k_useful_states : PySem.W.keepIn K (.ref f_useful_states) = true)
    (a_goal_table : PySem.W.nsIn K mainGlobals "goal_table" = some (some (.ref f_goal_table))) (l_goal_table : K.lookup f_goal_table = some ⟨oc_goal_table, od_goal_table, .func (PySem.W.fnOf "goal_table" "goal_table" (defArgs s_goal_table) (defBody s_goal_table) (defScope s_goal_table) .none kV_goal_table dc_goal_table pm_goal_table an_goal_table cd_goal_table ct_goal_table), sl_goal_table⟩) (c_goal_table : PySem.W.codeIn K cd_goal_table "goal_table" = true) (k_goal_table : PySem.W.keepIn K (.ref f_goal_table) = true)
    (a__law_deck : PySem.W.nsIn K mainGlobals "_law_deck" = some (some (.ref f__law_deck))) (l__law_deck : K.lookup f__law_deck = some ⟨oc__law_deck, od__law_deck, .func (PySem.W.fnOf "_law_deck" "_law_deck" (defArgs s__law_deck) (defBody s__law_deck) (defScope s__law_deck) .none kV__law_deck dc__law_deck pm__law_deck an__law_deck cd__law_deck ct__law_deck), sl__law_deck⟩) (c__law_deck : PySem.W.codeIn K cd__law_deck "_law_deck" = true) (k__law_deck : PySem.W.keepIn K (.ref f__law_deck) = true)
    (a__law_draw : PySem.W.nsIn K mainGlobals "_law_draw" = some (some (.ref f__law_draw))) (l__law_draw : K.lookup f__law_draw = some ⟨oc__law_draw, od__law_draw, .func (PySem.W.fnOf "_law_draw" "_law_draw" (defArgs s__law_draw) (defBody s__law_draw) (defScope s__law_draw) .none kV__law_draw dc__law_draw pm__law_draw an__law_draw cd__law_draw ct__law_draw), sl__law_draw⟩) (c__law_draw : PySem.W.codeIn K cd__law_draw "_law_draw" = true) (k__law_draw : PySem.W.keepIn K (.ref f__law_draw) = true)
    (a__law_pick : PySem.W.nsIn K mainGlobals "_law_pick" = some (some (.ref f__law_pick))) (l__law_pick : K.lookup f__law_pick = some ⟨oc__law_pick, od__law_pick, .func (PySem.W.fnOf "_law_pick" "_law_pick" (defArgs s__law_pick) (defBody s__law_pick) (defScope s__law_pick) .none kV__law_pick dc__law_pick pm__law_pick an__law_pick cd__law_pick ct__law_pick), sl__law_pick⟩) (c__law_pick : PySem.W.codeIn K cd__law_pick "_law_pick" = true) (k__law_pick : PySem.W.keepIn K (.ref f__law_pick) = true)
    (a__law_far : PySem.W.nsIn K mainGlobals "_law_far" = some (some (.ref f__law_far))) (l__law_far : K.lookup f__law_far = some ⟨oc__law_far, od__law_far, .func (PySem.W.fnOf "_law_far" "_law_far" (defArgs s__law_far) (defBody s__law_far) (defScope s__law_far) .none kV__law_far dc__law_far pm__law_far an__law_far cd__law_far ct__law_far), sl__law_far⟩) (c__law_far : PySem.W.codeIn K cd__law_far "_law_far" = true) (k__law_far : PySem.W.keepIn K (.ref f__law_far) = true)
    (a__law_form : PySem.W.nsIn K mainGlobals "_law_form" = some (some (.ref f__law_form))) (l__law_form : K.lookup f__law_form = some ⟨oc__law_form, od__law_form, .func (PySem.W.fnOf "_law_form" "_law_form" (defArgs s__law_form) (defBody s__law_form) (defScope s__law_form) .none kV__law_form dc__law_form pm__law_form an__law_form cd__law_form ct__law_form), sl__law_form⟩) (c__law_form : PySem.W.codeIn K cd__law_form "_law_form" = true) (k__law_form : PySem.W.keepIn K (.ref f__law_form) = true)
    (a__law_code : PySem.W.nsIn K mainGlobals "_law_code" = some (some (.ref f__law_code))) (l__law_code : K.lookup f__law_code = some ⟨oc__law_code, od__law_code, .func (PySem.W.fnOf "_law_code" "_law_code" (defArgs s__law_code) (defBody s__law_code) (defScope s__law_code) .none kV__law_code dc__law_code pm__law_code an__law_code cd__law_code ct__law_code), sl__law_code⟩) (c__law_code : PySem.W.codeIn K cd__law_code "_law_code" = true) (k__law_code : PySem.W.keepIn K (.ref f__law_code) = true)
    (a__law_table : PySem.W.nsIn K mainGlobals "_law_table" = some (some (.ref f__law_table))) (l__law_table : K.lookup f__law_table = some ⟨oc__law_table, od__law_table, .func (PySem.W.fnOf "_law_table" "_law_table" (defArgs s__law_table) (defBody s__law_table) (defScope s__law_table) .none kV__law_table dc__law_table pm__law_table an__law_table cd__law_table ct__law_table), sl__law_table⟩) (c__law_table : PySem.W.codeIn K cd__law_table "_law_table" = true) (k__law_table : PySem.W.keepIn K (.ref f__law_table) = true)
    (a__law_led : PySem.W.nsIn K mainGlobals "_law_led" = some (some (.ref f__law_led))) (l__law_led : K.lookup f__law_led = some ⟨oc__law_led, od__law_led, .func (PySem.W.fnOf "_law_led" "_law_led" (defArgs s__law_led) (defBody s__law_led) (defScope s__law_led) .none kV__law_led dc__law_led pm__law_led an__law_led cd__law_led ct__law_led), sl__law_led⟩) (c__law_led : PySem.W.codeIn K cd__law_led "_law_led" = true) (k__law_led : PySem.W.keepIn K (.ref f__law_led) = true)
    (a__law_is_endless : PySem.W.nsIn K mainGlobals "_law_is_endless" = some (some (.ref f__law_is_endless))) (l__law_is_endless : K.lookup f__law_is_endless = some ⟨oc__law_is_endless, od__law_is_endless, .func (PySem.W.fnOf "_law_is_endless" "_law_is_endless" (defArgs s__law_is_endless) (defBody s__law_is_endless) (defScope s__law_is_endless) .none kV__law_is_endless dc__law_is_endless pm__law_is_endless an__law_is_endless cd__law_is_endless ct__law_is_endless), sl__law_is_endless⟩) (c__law_is_endless : PySem.W.codeIn K cd__law_is_endless "_law_is_endless" = true) (k__law_is_endless : PySem.W.keepIn K (.ref f__law_is_endless) = true)
    (a__law_at : PySem.W.nsIn K mainGlobals "_law_at" = some (some (.ref f__law_at))) (l__law_at : K.lookup f__law_at = some ⟨oc__law_at, od__law_at, .func (PySem.W.fnOf "_law_at" "_law_at" (defArgs s__law_at) (defBody s__law_at) (defScope s__law_at) .none kV__law_at dc__law_at pm__law_at an__law_at cd__law_at ct__law_at), sl__law_at⟩) (c__law_at : PySem.W.codeIn K cd__law_at "_law_at" = true) (k__law_at : PySem.W.keepIn K (.ref f__law_at) = true)
    (a__law_heard : PySem.W.nsIn K mainGlobals "_law_heard" = some (some (.ref f__law_heard))) (l__law_heard : K.lookup f__law_heard = some ⟨oc__law_heard, od__law_heard, .func (PySem.W.fnOf "_law_heard" "_law_heard" (defArgs s__law_heard) (defBody s__law_heard) (defScope s__law_heard) .none kV__law_heard dc__law_heard pm__law_heard an__law_heard cd__law_heard ct__law_heard), sl__law_heard⟩) (c__law_heard : PySem.W.codeIn K cd__law_heard "_law_heard" = true) (k__law_heard : PySem.W.keepIn K (.ref f__law_heard) = true)
    (a__law_due : PySem.W.nsIn K mainGlobals "_law_due" = some (some (.ref f__law_due))) (l__law_due : K.lookup f__law_due = some ⟨oc__law_due, od__law_due, .func (PySem.W.fnOf "_law_due" "_law_due" (defArgs s__law_due) (defBody s__law_due) (defScope s__law_due) .none kV__law_due dc__law_due pm__law_due an__law_due cd__law_due ct__law_due), sl__law_due⟩) (c__law_due : PySem.W.codeIn K cd__law_due "_law_due" = true) (k__law_due : PySem.W.keepIn K (.ref f__law_due) = true)
    (a__law_right : PySem.W.nsIn K mainGlobals "_law_right" = some (some (.ref f__law_right))) (l__law_right : K.lookup f__law_right = some ⟨oc__law_right, od__law_right, .func (PySem.W.fnOf "_law_right" "_law_right" (defArgs s__law_right) (defBody s__law_right) (defScope s__law_right) .none kV__law_right dc__law_right pm__law_right an__law_right cd__law_right ct__law_right), sl__law_right⟩) (c__law_right : PySem.W.codeIn K cd__law_right "_law_right" = true) (k__law_right : PySem.W.keepIn K (.ref f__law_right) = true)
    (a_law : PySem.W.nsIn K mainGlobals "law" = some (some (.ref f_law))) (l_law : K.lookup f_law = some ⟨oc_law, od_law, .func (PySem.W.fnOf "law" "law" (defArgs s_law) (defBody s_law) (defScope s_law) .none kV_law dc_law pm_law an_law cd_law ct_law), sl_law⟩) (c_law : PySem.W.codeIn K cd_law "law" = true) (k_law : PySem.W.keepIn K (.ref f_law) = true)
    {tok_MOST : Tok} (v_MOST : PySem.W.nsIn K mainGlobals "MOST" = some (some (.int 200 tok_MOST)))
    (z_abs : PySem.W.nsIn K mainGlobals "abs" = some none) (z_all : PySem.W.nsIn K mainGlobals "all" = some none) (z_bool : PySem.W.nsIn K mainGlobals "bool" = some none) (z_dict : PySem.W.nsIn K mainGlobals "dict" = some none) (z_enumerate : PySem.W.nsIn K mainGlobals "enumerate" = some none) (z_int : PySem.W.nsIn K mainGlobals "int" = some none) (z_isinstance : PySem.W.nsIn K mainGlobals "isinstance" = some none) (z_len : PySem.W.nsIn K mainGlobals "len" = some none) (z_list : PySem.W.nsIn K mainGlobals "list" = some none) (z_min : PySem.W.nsIn K mainGlobals "min" = some none) (z_range : PySem.W.nsIn K mainGlobals "range" = some none) (z_repr : PySem.W.nsIn K mainGlobals "repr" = some none) (z_set : PySem.W.nsIn K mainGlobals "set" = some none) (z_sorted : PySem.W.nsIn K mainGlobals "sorted" = some none) (z_str : PySem.W.nsIn K mainGlobals "str" = some none) (z_sum : PySem.W.nsIn K mainGlobals "sum" = some none) (z_tuple : PySem.W.nsIn K mainGlobals "tuple" = some none) (z_zip : PySem.W.nsIn K mainGlobals "zip" = some none) :
    ∃ fd : FuncData, (∀ (s : Shared) (v : Value), BindsTo s fd ⟨[v], []⟩ [("_law_script", v)]) ∧ ∀ base : Heap, K.In base → base.Ns mainGlobals mg → base.NoDigits → GFn l.prog w K mg base CX0 12 fa fd ["_law_script"] (spLaw K) := by
  have e := hfa.symm.trans (PySem.W.mg_of X G a_law)
  cases e
  have F_NotIn___init__ := fun_mk (st := s_NotIn___init__) l_NotIn___init__ c_NotIn___init__ k_NotIn___init__
  have b_NotIn___init__ := F_NotIn___init__.binds (ps := ["self", "word"]) fun _ _ _ _ _ _ us hl => match us, hl with | [_, _], _ => rfl
  have F_TooLong___init__ := fun_mk (st := s_TooLong___init__) l_TooLong___init__ c_TooLong___init__ k_TooLong___init__
  have b_TooLong___init__ := F_TooLong___init__.binds (ps := ["self", "most"]) fun _ _ _ _ _ _ us hl => match us, hl with | [_, _], _ => rfl
  have F_Layers___init__ := fun_mk (st := s_Layers___init__) l_Layers___init__ c_Layers___init__ k_Layers___init__
  have b_Layers___init__ := F_Layers___init__.binds (ps := ["self", "form"]) fun _ _ _ _ _ _ us hl => match us, hl with | [_, _], _ => rfl
  have F_Layers_at := fun_mk (st := s_Layers_at) l_Layers_at c_Layers_at k_Layers_at
  have b_Layers_at := F_Layers_at.binds (ps := ["self", "length"]) fun _ _ _ _ _ _ us hl => match us, hl with | [_, _], _ => rfl
  have F_Layers_count_of := fun_mk (st := s_Layers_count_of) l_Layers_count_of c_Layers_count_of k_Layers_count_of
  have b_Layers_count_of := F_Layers_count_of.binds (ps := ["self", "length"]) fun _ _ _ _ _ _ us hl => match us, hl with | [_, _], _ => rfl
  have F_Layers_shorter := fun_mk (st := s_Layers_shorter) l_Layers_shorter c_Layers_shorter k_Layers_shorter
  have b_Layers_shorter := F_Layers_shorter.binds (ps := ["self", "length"]) fun _ _ _ _ _ _ us hl => match us, hl with | [_, _], _ => rfl
  have F_Layers_weights := fun_mk (st := s_Layers_weights) l_Layers_weights c_Layers_weights k_Layers_weights
  have b_Layers_weights := F_Layers_weights.binds (ps := ["self", "state", "length"]) fun _ _ _ _ _ _ us hl => match us, hl with | [_, _, _], _ => rfl
  have F_Layers_lesser := fun_mk (st := s_Layers_lesser) l_Layers_lesser c_Layers_lesser k_Layers_lesser
  have b_Layers_lesser := F_Layers_lesser.binds (ps := ["self", "text"]) fun _ _ _ _ _ _ us hl => match us, hl with | [_, _], _ => rfl
  have F_Layers_word_of := fun_mk (st := s_Layers_word_of) l_Layers_word_of c_Layers_word_of k_Layers_word_of
  have b_Layers_word_of := F_Layers_word_of.binds (ps := ["self", "length", "index"]) fun _ _ _ _ _ _ us hl => match us, hl with | [_, _, _], _ => rfl
  have F_Layers_place_of := fun_mk (st := s_Layers_place_of) l_Layers_place_of c_Layers_place_of k_Layers_place_of
  have b_Layers_place_of := F_Layers_place_of.binds (ps := ["self", "number", "most"]) fun _ _ _ _ _ _ us hl => match us, hl with | [_, _, _], _ => rfl
  have F_Sheet___init__ := fun_mk (st := s_Sheet___init__) l_Sheet___init__ c_Sheet___init__ k_Sheet___init__
  have b_Sheet___init__ := F_Sheet___init__.binds (ps := ["self", "size", "moves", "ends"]) fun _ _ _ _ _ _ us hl => match us, hl with | [_, _, _, _], _ => rfl
  have F_Format___init__ := fun_mk (st := s_Format___init__) l_Format___init__ c_Format___init__ k_Format___init__
  have b_Format___init__ := F_Format___init__.binds (ps := ["self", "size", "moves", "ends"]) fun _ _ _ _ _ _ us hl => match us, hl with | [_, _, _, _], _ => rfl
  have F_Format_step := fun_mk (st := s_Format_step) l_Format_step c_Format_step k_Format_step
  have b_Format_step := F_Format_step.binds (ps := ["self", "state", "letter"]) fun _ _ _ _ _ _ us hl => match us, hl with | [_, _, _], _ => rfl
  have F_Format_led : FunD K "led" "Format.led" (defArgs s_Format_led) (defBody s_Format_led) (defScope s_Format_led) [V.int 0] [] f_Format_led _ := ⟨⟨_, _, _, _, _, _, _, _, _, _, rfl, l_Format_led, c_Format_led, .inr ⟨by nofun, _, _, _, _, rfl, x_Format_led, rfl, .cons ⟨_, rfl⟩ (.nil)⟩, .inl rfl⟩, k_Format_led⟩
  obtain ⟨ds_Format_led, dv_Format_led, b_Format_led⟩ := F_Format_led.binds1 (ps := ["self", "word", "state"]) 2 0 (by nofun) rfl fun T kV doc pm an cdv ct us its h1 h2 => match us, h1, its, h2 with | [_, _], _, [_], _ => ⟨_, rfl, rfl⟩
  have F_Format_is_end := fun_mk (st := s_Format_is_end) l_Format_is_end c_Format_is_end k_Format_is_end
  have b_Format_is_end := F_Format_is_end.binds (ps := ["self", "state"]) fun _ _ _ _ _ _ us hl => match us, hl with | [_, _], _ => rfl
  have F_Format_has := fun_mk (st := s_Format_has) l_Format_has c_Format_has k_Format_has
  have b_Format_has := F_Format_has.binds (ps := ["self", "thing"]) fun _ _ _ _ _ _ us hl => match us, hl with | [_, _], _ => rfl
  have F_goals_by_state := fun_mk (st := s_goals_by_state) l_goals_by_state c_goals_by_state k_goals_by_state
  have b_goals_by_state := F_goals_by_state.binds (ps := ["form"]) fun _ _ _ _ _ _ us hl => match us, hl with | [_], _ => rfl
  have m_goals_by_state := PySem.W.mg_of X G a_goals_by_state
  have F_counts_at_ends := fun_mk (st := s_counts_at_ends) l_counts_at_ends c_counts_at_ends k_counts_at_ends
  have b_counts_at_ends := F_counts_at_ends.binds (ps := ["form"]) fun _ _ _ _ _ _ us hl => match us, hl with | [_], _ => rfl
  have m_counts_at_ends := PySem.W.mg_of X G a_counts_at_ends
  have F_longer := fun_mk (st := s_longer) l_longer c_longer k_longer
  have b_longer := F_longer.binds (ps := ["goals", "now"]) fun _ _ _ _ _ _ us hl => match us, hl with | [_, _], _ => rfl
  have m_longer := PySem.W.mg_of X G a_longer
  have F_is_integer := fun_mk (st := s_is_integer) l_is_integer c_is_integer k_is_integer
  have b_is_integer := F_is_integer.binds (ps := ["thing"]) fun _ _ _ _ _ _ us hl => match us, hl with | [_], _ => rfl
  have m_is_integer := PySem.W.mg_of X G a_is_integer
  have F_is_below := fun_mk (st := s_is_below) l_is_below c_is_below k_is_below
  have b_is_below := F_is_below.binds (ps := ["thing", "size"]) fun _ _ _ _ _ _ us hl => match us, hl with | [_, _], _ => rfl
  have m_is_below := PySem.W.mg_of X G a_is_below
  have F_is_ascending := fun_mk (st := s_is_ascending) l_is_ascending c_is_ascending k_is_ascending
  have b_is_ascending := F_is_ascending.binds (ps := ["things"]) fun _ _ _ _ _ _ us hl => match us, hl with | [_], _ => rfl
  have m_is_ascending := PySem.W.mg_of X G a_is_ascending
  have F_is_tuple_of := fun_mk (st := s_is_tuple_of) l_is_tuple_of c_is_tuple_of k_is_tuple_of
  have b_is_tuple_of := F_is_tuple_of.binds (ps := ["thing", "many"]) fun _ _ _ _ _ _ us hl => match us, hl with | [_, _], _ => rfl
  have m_is_tuple_of := PySem.W.mg_of X G a_is_tuple_of
  have F_useful_moves := fun_mk (st := s_useful_moves) l_useful_moves c_useful_moves k_useful_moves
  have b_useful_moves := F_useful_moves.binds (ps := ["form"]) fun _ _ _ _ _ _ us hl => match us, hl with | [_], _ => rfl
  have m_useful_moves := PySem.W.mg_of X G a_useful_moves
  have F_is_endless := fun_mk (st := s_is_endless) l_is_endless c_is_endless k_is_endless
  have b_is_endless := F_is_endless.binds (ps := ["form"]) fun _ _ _ _ _ _ us hl => match us, hl with | [_], _ => rfl
  have m_is_endless := PySem.W.mg_of X G a_is_endless
  have F_is_letter := fun_mk (st := s_is_letter) l_is_letter c_is_letter k_is_letter
  have b_is_letter := F_is_letter.binds (ps := ["thing"]) fun _ _ _ _ _ _ us hl => match us, hl with | [_], _ => rfl
  have m_is_letter := PySem.W.mg_of X G a_is_letter
  have F_is_word := fun_mk (st := s_is_word) l_is_word c_is_word k_is_word
  have b_is_word := F_is_word.binds (ps := ["thing"]) fun _ _ _ _ _ _ us hl => match us, hl with | [_], _ => rfl
  have m_is_word := PySem.W.mg_of X G a_is_word
  have F_number_of := fun_mk (st := s_number_of) l_number_of c_number_of k_number_of
  have b_number_of := F_number_of.binds (ps := ["form", "word"]) fun _ _ _ _ _ _ us hl => match us, hl with | [_, _], _ => rfl
  have m_number_of := PySem.W.mg_of X G a_number_of
  have F_how_many_ahead := fun_mk (st := s_how_many_ahead) l_how_many_ahead c_how_many_ahead k_how_many_ahead
  have b_how_many_ahead := F_how_many_ahead.binds (ps := ["form", "text"]) fun _ _ _ _ _ _ us hl => match us, hl with | [_, _], _ => rfl
  have m_how_many_ahead := PySem.W.mg_of X G a_how_many_ahead
  have F_many_to := fun_mk (st := s_many_to) l_many_to c_many_to k_many_to
  have b_many_to := F_many_to.binds (ps := ["form", "length"]) fun _ _ _ _ _ _ us hl => match us, hl with | [_, _], _ => rfl
  have m_many_to := PySem.W.mg_of X G a_many_to
  have F_how_many := fun_mk (st := s_how_many) l_how_many c_how_many k_how_many
  have b_how_many := F_how_many.binds (ps := ["form"]) fun _ _ _ _ _ _ us hl => match us, hl with | [_], _ => rfl
  have m_how_many := PySem.W.mg_of X G a_how_many
  have F_has_number := fun_mk (st := s_has_number) l_has_number c_has_number k_has_number
  have b_has_number := F_has_number.binds (ps := ["form", "number"]) fun _ _ _ _ _ _ us hl => match us, hl with | [_, _], _ => rfl
  have m_has_number := PySem.W.mg_of X G a_has_number
  have F_word_at := fun_mk (st := s_word_at) l_word_at c_word_at k_word_at
  have b_word_at := F_word_at.binds (ps := ["form", "number"]) fun _ _ _ _ _ _ us hl => match us, hl with | [_, _], _ => rfl
  have m_word_at := PySem.W.mg_of X G a_word_at
  have F_told_word := fun_mk (st := s_told_word) l_told_word c_told_word k_told_word
  have b_told_word := F_told_word.binds (ps := ["layers", "number"]) fun _ _ _ _ _ _ us hl => match us, hl with | [_, _], _ => rfl
  have m_told_word := PySem.W.mg_of X G a_told_word
  have F_step := fun_mk (st := s_step) l_step c_step k_step
  have b_step := F_step.binds (ps := ["form", "word", "by"]) fun _ _ _ _ _ _ us hl => match us, hl with | [_, _, _], _ => rfl
  have m_step := PySem.W.mg_of X G a_step
  have F_wrong_part := fun_mk (st := s_wrong_part) l_wrong_part c_wrong_part k_wrong_part
  have b_wrong_part := F_wrong_part.binds (ps := ["size", "moves", "ends", "is_single"]) fun _ _ _ _ _ _ us hl => match us, hl with | [_, _, _, _], _ => rfl
  have m_wrong_part := PySem.W.mg_of X G a_wrong_part
  have F_is_move := fun_mk (st := s_is_move) l_is_move c_is_move k_is_move
  have b_is_move := F_is_move.binds (ps := ["thing", "size"]) fun _ _ _ _ _ _ us hl => match us, hl with | [_, _], _ => rfl
  have m_is_move := PySem.W.mg_of X G a_is_move
  have F_are_moves := fun_mk (st := s_are_moves) l_are_moves c_are_moves k_are_moves
  have b_are_moves := F_are_moves.binds (ps := ["thing", "size"]) fun _ _ _ _ _ _ us hl => match us, hl with | [_, _], _ => rfl
  have m_are_moves := PySem.W.mg_of X G a_are_moves
  have F_are_single := fun_mk (st := s_are_single) l_are_single c_are_single k_are_single
  have b_are_single := F_are_single.binds (ps := ["moves"]) fun _ _ _ _ _ _ us hl => match us, hl with | [_], _ => rfl
  have m_are_single := PySem.W.mg_of X G a_are_single
  have F_are_ends := fun_mk (st := s_are_ends) l_are_ends c_are_ends k_are_ends
  have b_are_ends := F_are_ends.binds (ps := ["thing", "size"]) fun _ _ _ _ _ _ us hl => match us, hl with | [_, _], _ => rfl
  have m_are_ends := PySem.W.mg_of X G a_are_ends
  have F_reached := fun_mk (st := s_reached) l_reached c_reached k_reached
  have b_reached := F_reached.binds (ps := ["starts", "table"]) fun _ _ _ _ _ _ us hl => match us, hl with | [_, _], _ => rfl
  have m_reached := PySem.W.mg_of X G a_reached
  have F_met_states := fun_mk (st := s_met_states) l_met_states c_met_states k_met_states
  have b_met_states := F_met_states.binds (ps := ["moves"]) fun _ _ _ _ _ _ us hl => match us, hl with | [_], _ => rfl
  have m_met_states := PySem.W.mg_of X G a_met_states
  have F_live_states := fun_mk (st := s_live_states) l_live_states c_live_states k_live_states
  have b_live_states := F_live_states.binds (ps := ["moves", "ends"]) fun _ _ _ _ _ _ us hl => match us, hl with | [_, _], _ => rfl
  have m_live_states := PySem.W.mg_of X G a_live_states
  have F_useful_states := fun_mk (st := s_useful_states) l_useful_states c_useful_states k_useful_states
  have b_useful_states := F_useful_states.binds (ps := ["moves", "ends"]) fun _ _ _ _ _ _ us hl => match us, hl with | [_, _], _ => rfl
  have m_useful_states := PySem.W.mg_of X G a_useful_states
  have F_goal_table := fun_mk (st := s_goal_table) l_goal_table c_goal_table k_goal_table
  have b_goal_table := F_goal_table.binds (ps := ["moves"]) fun _ _ _ _ _ _ us hl => match us, hl with | [_], _ => rfl
  have m_goal_table := PySem.W.mg_of X G a_goal_table
  have F__law_deck := fun_mk (st := s__law_deck) l__law_deck c__law_deck k__law_deck
  have b__law_deck := F__law_deck.binds (ps := ["_law_script"]) fun _ _ _ _ _ _ us hl => match us, hl with | [_], _ => rfl
  have m__law_deck := PySem.W.mg_of X G a__law_deck
  have F__law_draw := fun_mk (st := s__law_draw) l__law_draw c__law_draw k__law_draw
  have b__law_draw := F__law_draw.binds (ps := ["_law_deck_here", "_law_many"]) fun _ _ _ _ _ _ us hl => match us, hl with | [_, _], _ => rfl
  have m__law_draw := PySem.W.mg_of X G a__law_draw
  have F__law_pick := fun_mk (st := s__law_pick) l__law_pick c__law_pick k__law_pick
  have b__law_pick := F__law_pick.binds (ps := ["_law_deck_here", "_law_some"]) fun _ _ _ _ _ _ us hl => match us, hl with | [_, _], _ => rfl
  have m__law_pick := PySem.W.mg_of X G a__law_pick
  have F__law_far := fun_mk (st := s__law_far) l__law_far c__law_far k__law_far
  have b__law_far := F__law_far.binds (ps := ["_law_deck_here", "_law_many"]) fun _ _ _ _ _ _ us hl => match us, hl with | [_, _], _ => rfl
  have m__law_far := PySem.W.mg_of X G a__law_far
  have F__law_form := fun_mk (st := s__law_form) l__law_form c__law_form k__law_form
  have b__law_form := F__law_form.binds (ps := ["_law_deck_here"]) fun _ _ _ _ _ _ us hl => match us, hl with | [_], _ => rfl
  have m__law_form := PySem.W.mg_of X G a__law_form
  have F__law_code := fun_mk (st := s__law_code) l__law_code c__law_code k__law_code
  have b__law_code := F__law_code.binds (ps := ["_law_w"]) fun _ _ _ _ _ _ us hl => match us, hl with | [_], _ => rfl
  have m__law_code := PySem.W.mg_of X G a__law_code
  have F__law_table := fun_mk (st := s__law_table) l__law_table c__law_table k__law_table
  have b__law_table := F__law_table.binds (ps := ["_law_w", "_law_many"]) fun _ _ _ _ _ _ us hl => match us, hl with | [_, _], _ => rfl
  have m__law_table := PySem.W.mg_of X G a__law_table
  have F__law_led := fun_mk (st := s__law_led) l__law_led c__law_led k__law_led
  have b__law_led := F__law_led.binds (ps := ["_law_w", "_law_word"]) fun _ _ _ _ _ _ us hl => match us, hl with | [_, _], _ => rfl
  have m__law_led := PySem.W.mg_of X G a__law_led
  have F__law_is_endless := fun_mk (st := s__law_is_endless) l__law_is_endless c__law_is_endless k__law_is_endless
  have b__law_is_endless := F__law_is_endless.binds (ps := ["_law_w"]) fun _ _ _ _ _ _ us hl => match us, hl with | [_], _ => rfl
  have m__law_is_endless := PySem.W.mg_of X G a__law_is_endless
  have F__law_at := fun_mk (st := s__law_at) l__law_at c__law_at k__law_at
  have b__law_at := F__law_at.binds (ps := ["_law_w", "_law_number", "_law_rows"]) fun _ _ _ _ _ _ us hl => match us, hl with | [_, _, _], _ => rfl
  have m__law_at := PySem.W.mg_of X G a__law_at
  have F__law_heard := fun_mk (st := s__law_heard) l__law_heard c__law_heard k__law_heard
  have b__law_heard := F__law_heard.binds (ps := ["_law_code_here", "_law_word", "_law_by"]) fun _ _ _ _ _ _ us hl => match us, hl with | [_, _, _], _ => rfl
  have m__law_heard := PySem.W.mg_of X G a__law_heard
  have F__law_due := fun_mk (st := s__law_due) l__law_due c__law_due k__law_due
  have b__law_due := F__law_due.binds (ps := ["_law_w", "_law_number", "_law_rows"]) fun _ _ _ _ _ _ us hl => match us, hl with | [_, _, _], _ => rfl
  have m__law_due := PySem.W.mg_of X G a__law_due
  have F__law_right := fun_mk (st := s__law_right) l__law_right c__law_right k__law_right
  have b__law_right := F__law_right.binds (ps := ["_law_deck_here", "_law_w"]) fun _ _ _ _ _ _ us hl => match us, hl with | [_, _], _ => rfl
  have m__law_right := PySem.W.mg_of X G a__law_right
  have F_law := fun_mk (st := s_law) l_law c_law k_law
  have kb_step_by_word_form := kb_of (ps := ["form", "word", "by"]) (ks := ["by", "word", "form"]) (g := kwThree) (gV := kwThree) F_step (fun kV doc pm an cdv ct us ws hl => by
    obtain ⟨x, y, z, rfl, rfl⟩ := kwThree_args hl
    rfl) kwThree_rel
  have T : Txt mg := ⟨PySem.W.mg_none_of X G z_abs, PySem.W.mg_none_of X G z_all, PySem.W.mg_none_of X G z_bool, PySem.W.mg_none_of X G z_dict, PySem.W.mg_none_of X G z_enumerate, PySem.W.mg_none_of X G z_int, PySem.W.mg_none_of X G z_isinstance, PySem.W.mg_none_of X G z_len, PySem.W.mg_none_of X G z_list, PySem.W.mg_none_of X G z_min, PySem.W.mg_none_of X G z_range, PySem.W.mg_none_of X G z_repr, PySem.W.mg_none_of X G z_set, PySem.W.mg_none_of X G z_sorted, PySem.W.mg_none_of X G z_str, PySem.W.mg_none_of X G z_sum, PySem.W.mg_none_of X G z_tuple, PySem.W.mg_none_of X G z_zip, ⟨_, PySem.W.mg_of X G v_MOST⟩⟩
  refine ⟨PySem.W.fnOf "law" "law" (defArgs s_law) (defBody s_law) (defScope s_law) .none kV_law dc_law pm_law an_law cd_law ct_law, fun s v => .of_eq rfl, fun base _ _ hdg => ?_⟩
  have U : Own K mg ⟨C_Format, C_Sheet, C_Layers, C_NotIn, C_TooLong, f_Format___init__, f_Sheet___init__, f_Layers___init__, f_NotIn___init__, f_TooLong___init__, f_Format_is_end, f_Format_step, f_Format_led, f_Format_has, f_Layers_at, f_Layers_count_of, f_Layers_shorter, f_Layers_weights, f_Layers_lesser, f_Layers_word_of, f_Layers_place_of⟩ :=
    { mFormat := PySem.W.mg_of X G g_Format, mSheet := PySem.W.mg_of X G g_Sheet, mLayers := PySem.W.mg_of X G g_Layers, mNotIn := PySem.W.mg_of X G g_NotIn, mTooLong := PySem.W.mg_of X G g_TooLong,
      cl := ⟨p_pg, p_hd, p_po, p_sa⟩, cS := ⟨q_pg, q_hd, q_po, q_sa⟩, cL := ⟨y_pg, y_hd, y_po, y_sa⟩,
      mkFormat := ⟨p_mk, a_Format___init__, i_Format___init__, p_kc⟩, mkSheet := ⟨q_mk, a_Sheet___init__, i_Sheet___init__, q_kc⟩, mkLayers := ⟨y_mk, a_Layers___init__, i_Layers___init__, y_kc⟩,
      sa := fun n hn => by
        simp only [List.mem_cons, List.not_mem_nil, or_false] at hn
        rcases hn with rfl | rfl | rfl | rfl | rfl | rfl
        · exact q_nsize
        · exact q_nmoves
        · exact q_nends
        · exact q_nletters
        · exact q_n_goals
        · exact q_n_ends,
      fa := fun n hn => by
        simp only [List.mem_cons, List.not_mem_nil, or_false] at hn
        rcases hn with rfl | rfl | rfl | rfl | rfl | rfl | rfl | rfl
        · exact p_nsize
        · exact p_nmoves
        · exact p_nends
        · exact p_nsheet
        · exact p_nletters
        · exact p_nuseful
        · exact p_n_goals
        · exact p_n_ends,
      la := fun n hn => by
        simp only [List.mem_cons, List.not_mem_nil, or_false] at hn
        rcases hn with rfl | rfl | rfl | rfl
        · exact y_nform
        · exact y_ngoal_rows
        · exact y_nlayers
        · exact y_nmoves,
      me_is_end := ⟨a_Format_is_end, i_Format_is_end, k_Format_is_end⟩,
      me_step := ⟨a_Format_step, i_Format_step, k_Format_step⟩,
      me_led := ⟨a_Format_led, i_Format_led, k_Format_led⟩,
      me_has := ⟨a_Format_has, i_Format_has, k_Format_has⟩,
      me_at := ⟨a_Layers_at, i_Layers_at, k_Layers_at⟩,
      me_count_of := ⟨a_Layers_count_of, i_Layers_count_of, k_Layers_count_of⟩,
      me_shorter := ⟨a_Layers_shorter, i_Layers_shorter, k_Layers_shorter⟩,
      me_weights := ⟨a_Layers_weights, i_Layers_weights, k_Layers_weights⟩,
      me_lesser := ⟨a_Layers_lesser, i_Layers_lesser, k_Layers_lesser⟩,
      me_word_of := ⟨a_Layers_word_of, i_Layers_word_of, k_Layers_word_of⟩,
      me_place_of := ⟨a_Layers_place_of, i_Layers_place_of, k_Layers_place_of⟩,
      xNotIn := ⟨⟨nmN, qN, NN, bsN, _, snN, subN, abN, colN, ddN, m0N, m1N, m2N, m3N, m5N, n_x, ⟨[C_SerialError], rfl⟩⟩, n_sa, n_s, n_t, n_k⟩,
      iNotIn := a_NotIn___init__, tNotIn := isFn_type i_NotIn___init__, nWord := n_at, rNotIn := ⟨n_ga, n_gg, n_s, n_hd⟩,
      xTooLong := ⟨⟨nmT, qT, NT, bsT, _, snT, subT, abT, colT, ddT, m0T, m1T, m2T, m3T, m5T, t_x, ⟨[C_SerialError], rfl⟩⟩, t_sa, t_s, t_t, t_k⟩,
      iTooLong := a_TooLong___init__, tTooLong := isFn_type i_TooLong___init__, nMost := t_at, rTooLong := ⟨t_ga, t_gg, t_s, t_hd⟩,
      eTT := exm_is t_s t_ic t_t t_self, eNT := exm_is t_s t_ic t_t nt_sub, eNN := exm_is n_s n_ic n_t n_self }
  have G_wrong_part := fo_wrong (P := l.prog) (w := w) (base := base) F_wrong_part F_is_move m_is_move b_is_move F_is_tuple_of m_is_tuple_of b_is_tuple_of F_is_below m_is_below b_is_below F_is_letter m_is_letter b_is_letter F_is_integer m_is_integer b_is_integer F_is_ascending m_is_ascending b_is_ascending F_are_moves m_are_moves b_are_moves F_are_single m_are_single b_are_single F_are_ends m_are_ends b_are_ends T
  have G_useful_states := fo_useful (P := l.prog) (w := w) (base := base) F_useful_states F_reached m_reached b_reached F_met_states m_met_states b_met_states F_live_states m_live_states b_live_states T
  have G_Sheet___init__ := fo_sheet (fd := f_Format_is_end) (P := l.prog) (w := w) (base := base) (Z := ⟨C_Format, C_Sheet, C_Layers, C_NotIn, C_TooLong, f_Format___init__, f_Sheet___init__, f_Layers___init__, f_NotIn___init__, f_TooLong___init__, f_Format_is_end, f_Format_step, f_Format_led, f_Format_has, f_Layers_at, f_Layers_count_of, f_Layers_shorter, f_Layers_weights, f_Layers_lesser, f_Layers_word_of, f_Layers_place_of⟩) F_Sheet___init__ U m_wrong_part b_wrong_part F_wrong_part G_wrong_part F_goal_table m_goal_table b_goal_table T
  have G_Format___init__ := fo_form (fd := f_Format_is_end) (f3 := f_Format_is_end) (P := l.prog) (w := w) (base := base) (Z := ⟨C_Format, C_Sheet, C_Layers, C_NotIn, C_TooLong, f_Format___init__, f_Sheet___init__, f_Layers___init__, f_NotIn___init__, f_TooLong___init__, f_Format_is_end, f_Format_step, f_Format_led, f_Format_has, f_Layers_at, f_Layers_count_of, f_Layers_shorter, f_Layers_weights, f_Layers_lesser, f_Layers_word_of, f_Layers_place_of⟩) F_Format___init__ U m_wrong_part b_wrong_part F_wrong_part G_wrong_part F_useful_states m_useful_states b_useful_states G_useful_states F_Sheet___init__ b_Sheet___init__ G_Sheet___init__ T
  have G_Format_has := fo_has (P := l.prog) (w := w) (base := base) (Z := ⟨C_Format, C_Sheet, C_Layers, C_NotIn, C_TooLong, f_Format___init__, f_Sheet___init__, f_Layers___init__, f_NotIn___init__, f_TooLong___init__, f_Format_is_end, f_Format_step, f_Format_led, f_Format_has, f_Layers_at, f_Layers_count_of, f_Layers_shorter, f_Layers_weights, f_Layers_lesser, f_Layers_word_of, f_Layers_place_of⟩) F_Format_has U F_is_word m_is_word b_is_word F_Format_is_end b_Format_is_end F_Format_led b_Format_led dv_Format_led T
  have G_Layers___init__ := fo_layers (P := l.prog) (w := w) (base := base) (Z := ⟨C_Format, C_Sheet, C_Layers, C_NotIn, C_TooLong, f_Format___init__, f_Sheet___init__, f_Layers___init__, f_NotIn___init__, f_TooLong___init__, f_Format_is_end, f_Format_step, f_Format_led, f_Format_has, f_Layers_at, f_Layers_count_of, f_Layers_shorter, f_Layers_weights, f_Layers_lesser, f_Layers_word_of, f_Layers_place_of⟩) F_Layers___init__ U F_Format_is_end b_Format_is_end F_goals_by_state m_goals_by_state b_goals_by_state F_counts_at_ends m_counts_at_ends b_counts_at_ends T
  have G_Layers_at := fo_at (P := l.prog) (w := w) (base := base) (Z := ⟨C_Format, C_Sheet, C_Layers, C_NotIn, C_TooLong, f_Format___init__, f_Sheet___init__, f_Layers___init__, f_NotIn___init__, f_TooLong___init__, f_Format_is_end, f_Format_step, f_Format_led, f_Format_has, f_Layers_at, f_Layers_count_of, f_Layers_shorter, f_Layers_weights, f_Layers_lesser, f_Layers_word_of, f_Layers_place_of⟩) F_Layers_at U F_longer m_longer b_longer T
  have G_Layers_count_of := fo_co (P := l.prog) (w := w) (base := base) (Z := ⟨C_Format, C_Sheet, C_Layers, C_NotIn, C_TooLong, f_Format___init__, f_Sheet___init__, f_Layers___init__, f_NotIn___init__, f_TooLong___init__, f_Format_is_end, f_Format_step, f_Format_led, f_Format_has, f_Layers_at, f_Layers_count_of, f_Layers_shorter, f_Layers_weights, f_Layers_lesser, f_Layers_word_of, f_Layers_place_of⟩) F_Layers_count_of U b_Layers_at G_Layers_at T
  have G_Layers_shorter := fo_sh (P := l.prog) (w := w) (base := base) (Z := ⟨C_Format, C_Sheet, C_Layers, C_NotIn, C_TooLong, f_Format___init__, f_Sheet___init__, f_Layers___init__, f_NotIn___init__, f_TooLong___init__, f_Format_is_end, f_Format_step, f_Format_led, f_Format_has, f_Layers_at, f_Layers_count_of, f_Layers_shorter, f_Layers_weights, f_Layers_lesser, f_Layers_word_of, f_Layers_place_of⟩) F_Layers_shorter U b_Layers_count_of G_Layers_count_of T
  have G_Layers_weights := fo_wt (P := l.prog) (w := w) (base := base) (Z := ⟨C_Format, C_Sheet, C_Layers, C_NotIn, C_TooLong, f_Format___init__, f_Sheet___init__, f_Layers___init__, f_NotIn___init__, f_TooLong___init__, f_Format_is_end, f_Format_step, f_Format_led, f_Format_has, f_Layers_at, f_Layers_count_of, f_Layers_shorter, f_Layers_weights, f_Layers_lesser, f_Layers_word_of, f_Layers_place_of⟩) F_Layers_weights U b_Layers_at G_Layers_at T
  have G_Layers_lesser := fo_le (P := l.prog) (w := w) (base := base) (Z := ⟨C_Format, C_Sheet, C_Layers, C_NotIn, C_TooLong, f_Format___init__, f_Sheet___init__, f_Layers___init__, f_NotIn___init__, f_TooLong___init__, f_Format_is_end, f_Format_step, f_Format_led, f_Format_has, f_Layers_at, f_Layers_count_of, f_Layers_shorter, f_Layers_weights, f_Layers_lesser, f_Layers_word_of, f_Layers_place_of⟩) F_Layers_lesser U b_Layers_weights G_Layers_weights F_Format_step b_Format_step T
  have G_Layers_word_of := fo_wo (P := l.prog) (w := w) (base := base) (Z := ⟨C_Format, C_Sheet, C_Layers, C_NotIn, C_TooLong, f_Format___init__, f_Sheet___init__, f_Layers___init__, f_NotIn___init__, f_TooLong___init__, f_Format_is_end, f_Format_step, f_Format_led, f_Format_has, f_Layers_at, f_Layers_count_of, f_Layers_shorter, f_Layers_weights, f_Layers_lesser, f_Layers_word_of, f_Layers_place_of⟩) F_Layers_word_of U b_Layers_weights G_Layers_weights T
  have G_Layers_place_of := fo_po (P := l.prog) (w := w) (base := base) (Z := ⟨C_Format, C_Sheet, C_Layers, C_NotIn, C_TooLong, f_Format___init__, f_Sheet___init__, f_Layers___init__, f_NotIn___init__, f_TooLong___init__, f_Format_is_end, f_Format_step, f_Format_led, f_Format_has, f_Layers_at, f_Layers_count_of, f_Layers_shorter, f_Layers_weights, f_Layers_lesser, f_Layers_word_of, f_Layers_place_of⟩) F_Layers_place_of U b_Layers_count_of G_Layers_count_of T
  have LF : LyF l.prog w K mg base ⟨C_Format, C_Sheet, C_Layers, C_NotIn, C_TooLong, f_Format___init__, f_Sheet___init__, f_Layers___init__, f_NotIn___init__, f_TooLong___init__, f_Format_is_end, f_Format_step, f_Format_led, f_Format_has, f_Layers_at, f_Layers_count_of, f_Layers_shorter, f_Layers_weights, f_Layers_lesser, f_Layers_word_of, f_Layers_place_of⟩ := ⟨⟨_, b_Layers___init__, G_Layers___init__⟩, ⟨_, b_Layers_shorter, G_Layers_shorter⟩, ⟨_, b_Layers_lesser, G_Layers_lesser⟩, ⟨_, b_Layers_word_of, G_Layers_word_of⟩, ⟨_, b_Layers_place_of, G_Layers_place_of⟩⟩
  have G_is_endless := fo_ie (P := l.prog) (w := w) (base := base) (Z := ⟨C_Format, C_Sheet, C_Layers, C_NotIn, C_TooLong, f_Format___init__, f_Sheet___init__, f_Layers___init__, f_NotIn___init__, f_TooLong___init__, f_Format_is_end, f_Format_step, f_Format_led, f_Format_has, f_Layers_at, f_Layers_count_of, f_Layers_shorter, f_Layers_weights, f_Layers_lesser, f_Layers_word_of, f_Layers_place_of⟩) F_is_endless U F_useful_moves m_useful_moves b_useful_moves T
  have G_how_many_ahead := fo_ah (P := l.prog) (w := w) (base := base) (Z := ⟨C_Format, C_Sheet, C_Layers, C_NotIn, C_TooLong, f_Format___init__, f_Sheet___init__, f_Layers___init__, f_NotIn___init__, f_TooLong___init__, f_Format_is_end, f_Format_step, f_Format_led, f_Format_has, f_Layers_at, f_Layers_count_of, f_Layers_shorter, f_Layers_weights, f_Layers_lesser, f_Layers_word_of, f_Layers_place_of⟩) F_how_many_ahead U LF T
  have G_many_to := fo_mt (P := l.prog) (w := w) (base := base) (Z := ⟨C_Format, C_Sheet, C_Layers, C_NotIn, C_TooLong, f_Format___init__, f_Sheet___init__, f_Layers___init__, f_NotIn___init__, f_TooLong___init__, f_Format_is_end, f_Format_step, f_Format_led, f_Format_has, f_Layers_at, f_Layers_count_of, f_Layers_shorter, f_Layers_weights, f_Layers_lesser, f_Layers_word_of, f_Layers_place_of⟩) F_many_to U LF T
  have G_how_many := fo_hm (P := l.prog) (w := w) (base := base) (Z := ⟨C_Format, C_Sheet, C_Layers, C_NotIn, C_TooLong, f_Format___init__, f_Sheet___init__, f_Layers___init__, f_NotIn___init__, f_TooLong___init__, f_Format_is_end, f_Format_step, f_Format_led, f_Format_has, f_Layers_at, f_Layers_count_of, f_Layers_shorter, f_Layers_weights, f_Layers_lesser, f_Layers_word_of, f_Layers_place_of⟩) F_how_many U F_is_endless m_is_endless b_is_endless G_is_endless F_many_to m_many_to b_many_to G_many_to T
  have G_has_number := fo_hn (P := l.prog) (w := w) (base := base) (Z := ⟨C_Format, C_Sheet, C_Layers, C_NotIn, C_TooLong, f_Format___init__, f_Sheet___init__, f_Layers___init__, f_NotIn___init__, f_TooLong___init__, f_Format_is_end, f_Format_step, f_Format_led, f_Format_has, f_Layers_at, f_Layers_count_of, f_Layers_shorter, f_Layers_weights, f_Layers_lesser, f_Layers_word_of, f_Layers_place_of⟩) F_has_number F_how_many m_how_many b_how_many G_how_many T
  have G_told_word := fo_tw (P := l.prog) (w := w) (base := base) (Z := ⟨C_Format, C_Sheet, C_Layers, C_NotIn, C_TooLong, f_Format___init__, f_Sheet___init__, f_Layers___init__, f_NotIn___init__, f_TooLong___init__, f_Format_is_end, f_Format_step, f_Format_led, f_Format_has, f_Layers_at, f_Layers_count_of, f_Layers_shorter, f_Layers_weights, f_Layers_lesser, f_Layers_word_of, f_Layers_place_of⟩) F_told_word U LF F_TooLong___init__ b_TooLong___init__ T
  have G_word_at := fo_wa (P := l.prog) (w := w) (base := base) (Z := ⟨C_Format, C_Sheet, C_Layers, C_NotIn, C_TooLong, f_Format___init__, f_Sheet___init__, f_Layers___init__, f_NotIn___init__, f_TooLong___init__, f_Format_is_end, f_Format_step, f_Format_led, f_Format_has, f_Layers_at, f_Layers_count_of, f_Layers_shorter, f_Layers_weights, f_Layers_lesser, f_Layers_word_of, f_Layers_place_of⟩) F_word_at U LF F_told_word m_told_word b_told_word G_told_word F_has_number m_has_number b_has_number G_has_number T
  have G_number_of := fo_no (P := l.prog) (w := w) (base := base) (Z := ⟨C_Format, C_Sheet, C_Layers, C_NotIn, C_TooLong, f_Format___init__, f_Sheet___init__, f_Layers___init__, f_NotIn___init__, f_TooLong___init__, f_Format_is_end, f_Format_step, f_Format_led, f_Format_has, f_Layers_at, f_Layers_count_of, f_Layers_shorter, f_Layers_weights, f_Layers_lesser, f_Layers_word_of, f_Layers_place_of⟩) F_number_of U F_how_many_ahead m_how_many_ahead b_how_many_ahead G_how_many_ahead b_Format_has G_Format_has F_NotIn___init__ b_NotIn___init__ T
  have G_step := fo_st (P := l.prog) (w := w) (base := base) (Z := ⟨C_Format, C_Sheet, C_Layers, C_NotIn, C_TooLong, f_Format___init__, f_Sheet___init__, f_Layers___init__, f_NotIn___init__, f_TooLong___init__, f_Format_is_end, f_Format_step, f_Format_led, f_Format_has, f_Layers_at, f_Layers_count_of, f_Layers_shorter, f_Layers_weights, f_Layers_lesser, f_Layers_word_of, f_Layers_place_of⟩) F_step F_word_at m_word_at b_word_at G_word_at F_number_of m_number_of b_number_of G_number_of T
  have G__law_code := ok_code (P := l.prog) (w := w) (base := base) (Z := ⟨C_Format, C_Sheet, C_Layers, C_NotIn, C_TooLong, f_Format___init__, f_Sheet___init__, f_Layers___init__, f_NotIn___init__, f_TooLong___init__, f_Format_is_end, f_Format_step, f_Format_led, f_Format_has, f_Layers_at, f_Layers_count_of, f_Layers_shorter, f_Layers_weights, f_Layers_lesser, f_Layers_word_of, f_Layers_place_of⟩) F__law_code U F_Format___init__ b_Format___init__ G_Format___init__ T
  have G__law_table := ok_table (P := l.prog) (w := w) (base := base) F__law_table T
  have G__law_led := ok_lled (P := l.prog) (w := w) (base := base) F__law_led T
  have G__law_is_endless := ok_lend (P := l.prog) (w := w) (base := base) F__law_is_endless F__law_table m__law_table b__law_table T
  have G__law_at := ok_lat (P := l.prog) (w := w) (base := base) F__law_at F__law_is_endless m__law_is_endless b__law_is_endless G__law_is_endless T
  have G__law_due := ok_due (P := l.prog) (w := w) (base := base) F__law_due F__law_at m__law_at b__law_at G__law_at T
  have G__law_heard := ok_heard (P := l.prog) (w := w) (base := base) (Z := ⟨C_Format, C_Sheet, C_Layers, C_NotIn, C_TooLong, f_Format___init__, f_Sheet___init__, f_Layers___init__, f_NotIn___init__, f_TooLong___init__, f_Format_is_end, f_Format_step, f_Format_led, f_Format_has, f_Layers_at, f_Layers_count_of, f_Layers_shorter, f_Layers_weights, f_Layers_lesser, f_Layers_word_of, f_Layers_place_of⟩) F__law_heard U F_step m_step b_step G_step T
  have G__law_far := ok_far (P := l.prog) (w := w) (base := base) F__law_far F__law_draw m__law_draw b__law_draw T
  have G__law_right := ok_right (P := l.prog) (w := w) (base := base) (Z := ⟨C_Format, C_Sheet, C_Layers, C_NotIn, C_TooLong, f_Format___init__, f_Sheet___init__, f_Layers___init__, f_NotIn___init__, f_TooLong___init__, f_Format_is_end, f_Format_step, f_Format_led, f_Format_has, f_Layers_at, f_Layers_count_of, f_Layers_shorter, f_Layers_weights, f_Layers_lesser, f_Layers_word_of, f_Layers_place_of⟩) hdg F__law_right U F_step m_step b_step kb_step_by_word_form G_step F__law_code m__law_code b__law_code G__law_code F__law_table m__law_table b__law_table G__law_table F__law_draw m__law_draw b__law_draw F__law_pick m__law_pick b__law_pick F__law_led m__law_led b__law_led G__law_led F__law_heard m__law_heard b__law_heard G__law_heard F__law_far m__law_far b__law_far G__law_far F__law_at m__law_at b__law_at G__law_at F__law_due m__law_due b__law_due G__law_due T
  exact ok_law F_law F__law_deck m__law_deck b__law_deck F__law_draw m__law_draw b__law_draw F__law_pick m__law_pick b__law_pick F__law_form m__law_form b__law_form F__law_right m__law_right b__law_right G__law_right T
end SG
open PySem PySem.W PyProof.Rows
set_option maxHeartbeats 0 in
theorem PySem.Challenge.cw_serialhouse_k22_steps_from_word_to_word_holds : PySem.Challenge.rw_serialhouse_k22_steps_from_word_to_word.Holds := by
  w_on; o_law; k_head; (case hw => w_witness2)
  k_fill
  refine SG.walk_g (l := PySem.Challenge.rw_serialhouse_k22_steps_from_word_to_word) (n := 63) (k := 12) (x := "_law_script") (sp := SG.spLaw) rfl (by decide) rfl ⟨rfl, by decide, by decide⟩ (fun w h Y => PySem.W.kIn_of Y) ?F (fun _ _ a ns hl _ hS => ⟨a, ns, rfl, hS, hl, fun _ => rfl⟩)
  case F =>
    intro w mg fa h KX G hmg
    refine' SG.all_mk KX G hmg ?g_Format ?g_Sheet ?g_Layers ?g_NotIn ?g_TooLong ?g_SerialError ?p_pg ?p_hd ?p_po ?p_sa ?p_mk ?p_kc ?q_pg ?q_hd ?q_po ?q_sa ?q_mk ?q_kc ?y_pg ?y_hd ?y_po ?y_sa ?y_mk ?y_kc ?p_nsize ?p_nmoves ?p_nends ?p_nsheet ?p_nletters ?p_nuseful ?p_n_goals ?p_n_ends ?q_nsize ?q_nmoves ?q_nends ?q_nletters ?q_n_goals ?q_n_ends ?y_nform ?y_ngoal_rows ?y_nlayers ?y_nmoves ?n_x ?n_sa ?n_ga ?n_gg ?n_at ?n_k ?n_s ?n_t ?n_hd ?n_ic ?n_self ?t_x ?t_sa ?t_ga ?t_gg ?t_at ?t_k ?t_s ?t_t ?t_hd ?t_ic ?t_self ?nt_sub ?a_NotIn___init__ ?i_NotIn___init__ ?l_NotIn___init__ ?c_NotIn___init__ ?k_NotIn___init__ ?a_TooLong___init__ ?i_TooLong___init__ ?l_TooLong___init__ ?c_TooLong___init__ ?k_TooLong___init__ ?a_Layers___init__ ?i_Layers___init__ ?l_Layers___init__ ?c_Layers___init__ ?k_Layers___init__ ?a_Layers_at ?i_Layers_at ?l_Layers_at ?c_Layers_at ?k_Layers_at ?a_Layers_count_of ?i_Layers_count_of ?l_Layers_count_of ?c_Layers_count_of ?k_Layers_count_of ?a_Layers_shorter ?i_Layers_shorter ?l_Layers_shorter ?c_Layers_shorter ?k_Layers_shorter ?a_Layers_weights ?i_Layers_weights ?l_Layers_weights ?c_Layers_weights ?k_Layers_weights ?a_Layers_lesser ?i_Layers_lesser ?l_Layers_lesser ?c_Layers_lesser ?k_Layers_lesser ?a_Layers_word_of ?i_Layers_word_of ?l_Layers_word_of ?c_Layers_word_of ?k_Layers_word_of ?a_Layers_place_of ?i_Layers_place_of ?l_Layers_place_of ?c_Layers_place_of ?k_Layers_place_of ?a_Sheet___init__ ?i_Sheet___init__ ?l_Sheet___init__ ?c_Sheet___init__ ?k_Sheet___init__ ?a_Format___init__ ?i_Format___init__ ?l_Format___init__ ?c_Format___init__ ?k_Format___init__ ?a_Format_step ?i_Format_step ?l_Format_step ?c_Format_step ?k_Format_step ?a_Format_led ?i_Format_led ?l_Format_led ?c_Format_led ?k_Format_led ?x_Format_led ?a_Format_is_end ?i_Format_is_end ?l_Format_is_end ?c_Format_is_end ?k_Format_is_end ?a_Format_has ?i_Format_has ?l_Format_has ?c_Format_has ?k_Format_has ?a_goals_by_state ?l_goals_by_state ?c_goals_by_state ?k_goals_by_state ?a_counts_at_ends ?l_counts_at_ends ?c_counts_at_ends ?k_counts_at_ends ?a_longer ?l_longer ?c_longer ?k_longer ?a_is_integer ?l_is_integer ?c_is_integer ?k_is_integer ?a_is_below ?l_is_below ?c_is_below ?k_is_below ?a_is_ascending ?l_is_ascending ?c_is_ascending ?k_is_ascending ?a_is_tuple_of ?l_is_tuple_of ?c_is_tuple_of ?k_is_tuple_of ?a_useful_moves ?l_useful_moves ?c_useful_moves ?k_useful_moves ?a_is_endless ?l_is_endless ?c_is_endless ?k_is_endless ?a_is_letter ?l_is_letter ?c_is_letter ?k_is_letter ?a_is_word ?l_is_word ?c_is_word ?k_is_word ?a_number_of ?l_number_of ?c_number_of ?k_number_of ?a_how_many_ahead ?l_how_many_ahead ?c_how_many_ahead ?k_how_many_ahead ?a_many_to ?l_many_to ?c_many_to ?k_many_to ?a_how_many ?l_how_many ?c_how_many ?k_how_many ?a_has_number ?l_has_number ?c_has_number ?k_has_number ?a_word_at ?l_word_at ?c_word_at ?k_word_at ?a_told_word ?l_told_word ?c_told_word ?k_told_word ?a_step ?l_step ?c_step ?k_step ?a_wrong_part ?l_wrong_part ?c_wrong_part ?k_wrong_part ?a_is_move ?l_is_move ?c_is_move ?k_is_move ?a_are_moves ?l_are_moves ?c_are_moves ?k_are_moves ?a_are_single ?l_are_single ?c_are_single ?k_are_single ?a_are_ends ?l_are_ends ?c_are_ends ?k_are_ends ?a_reached ?l_reached ?c_reached ?k_reached ?a_met_states ?l_met_states ?c_met_states ?k_met_states ?a_live_states ?l_live_states ?c_live_states ?k_live_states ?a_useful_states ?l_useful_states ?c_useful_states ?k_useful_states ?a_goal_table ?l_goal_table ?c_goal_table ?k_goal_table ?a__law_deck ?l__law_deck ?c__law_deck ?k__law_deck ?a__law_draw ?l__law_draw ?c__law_draw ?k__law_draw ?a__law_pick ?l__law_pick ?c__law_pick ?k__law_pick ?a__law_far ?l__law_far ?c__law_far ?k__law_far ?a__law_form ?l__law_form ?c__law_form ?k__law_form ?a__law_code ?l__law_code ?c__law_code ?k__law_code ?a__law_table ?l__law_table ?c__law_table ?k__law_table ?a__law_led ?l__law_led ?c__law_led ?k__law_led ?a__law_is_endless ?l__law_is_endless ?c__law_is_endless ?k__law_is_endless ?a__law_at ?l__law_at ?c__law_at ?k__law_at ?a__law_heard ?l__law_heard ?c__law_heard ?k__law_heard ?a__law_due ?l__law_due ?c__law_due ?k__law_due ?a__law_right ?l__law_right ?c__law_right ?k__law_right ?a_law ?l_law ?c_law ?k_law ?v_MOST ?z_abs ?z_all ?z_bool ?z_dict ?z_enumerate ?z_int ?z_isinstance ?z_len ?z_list ?z_min ?z_range ?z_repr ?z_set ?z_sorted ?z_str ?z_sum ?z_tuple ?z_zip
    (case g_Format => k_is); (case g_Sheet => k_is); (case g_Layers => k_is); (case g_NotIn => k_is); (case g_TooLong => k_is); (case g_SerialError => k_is); (case p_pg => k_is); (case p_hd => k_is); (case p_po => k_is); (case p_sa => k_is); (case p_mk => k_is); (case p_kc => k_is); (case q_pg => k_is); (case q_hd => k_is); (case q_po => k_is); (case q_sa => k_is); (case q_mk => k_is); (case q_kc => k_is); (case y_pg => k_is); (case y_hd => k_is); (case y_po => k_is); (case y_sa => k_is); (case y_mk => k_is); (case y_kc => k_is); (case p_nsize => k_is); (case p_nmoves => k_is); (case p_nends => k_is); (case p_nsheet => k_is); (case p_nletters => k_is); (case p_nuseful => k_is); (case p_n_goals => k_is); (case p_n_ends => k_is); (case q_nsize => k_is); (case q_nmoves => k_is); (case q_nends => k_is); (case q_nletters => k_is); (case q_n_goals => k_is); (case q_n_ends => k_is); (case y_nform => k_is); (case y_ngoal_rows => k_is); (case y_nlayers => k_is); (case y_nmoves => k_is); (case n_x => k_is); (case n_sa => k_is); (case n_ga => k_is); (case n_gg => k_is); (case n_at => k_is); (case n_k => k_is); (case n_s => k_is); (case n_t => k_is); (case n_hd => k_is); (case n_ic => k_is); (case n_self => k_is); (case t_x => k_is); (case t_sa => k_is); (case t_ga => k_is); (case t_gg => k_is); (case t_at => k_is); (case t_k => k_is); (case t_s => k_is); (case t_t => k_is); (case t_hd => k_is); (case t_ic => k_is); (case t_self => k_is); (case nt_sub => k_is); (case a_NotIn___init__ => k_is); (case i_NotIn___init__ => k_is); (case l_NotIn___init__ => k_is); (case c_NotIn___init__ => k_is); (case k_NotIn___init__ => k_is); (case a_TooLong___init__ => k_is); (case i_TooLong___init__ => k_is); (case l_TooLong___init__ => k_is); (case c_TooLong___init__ => k_is); (case k_TooLong___init__ => k_is); (case a_Layers___init__ => k_is); (case i_Layers___init__ => k_is); (case l_Layers___init__ => k_is); (case c_Layers___init__ => k_is); (case k_Layers___init__ => k_is); (case a_Layers_at => k_is); (case i_Layers_at => k_is); (case l_Layers_at => k_is); (case c_Layers_at => k_is); (case k_Layers_at => k_is); (case a_Layers_count_of => k_is); (case i_Layers_count_of => k_is); (case l_Layers_count_of => k_is); (case c_Layers_count_of => k_is); (case k_Layers_count_of => k_is); (case a_Layers_shorter => k_is); (case i_Layers_shorter => k_is); (case l_Layers_shorter => k_is); (case c_Layers_shorter => k_is); (case k_Layers_shorter => k_is); (case a_Layers_weights => k_is); (case i_Layers_weights => k_is); (case l_Layers_weights => k_is); (case c_Layers_weights => k_is); (case k_Layers_weights => k_is); (case a_Layers_lesser => k_is); (case i_Layers_lesser => k_is); (case l_Layers_lesser => k_is); (case c_Layers_lesser => k_is); (case k_Layers_lesser => k_is); (case a_Layers_word_of => k_is); (case i_Layers_word_of => k_is); (case l_Layers_word_of => k_is); (case c_Layers_word_of => k_is); (case k_Layers_word_of => k_is); (case a_Layers_place_of => k_is); (case i_Layers_place_of => k_is); (case l_Layers_place_of => k_is); (case c_Layers_place_of => k_is); (case k_Layers_place_of => k_is); (case a_Sheet___init__ => k_is); (case i_Sheet___init__ => k_is); (case l_Sheet___init__ => k_is); (case c_Sheet___init__ => k_is); (case k_Sheet___init__ => k_is); (case a_Format___init__ => k_is); (case i_Format___init__ => k_is); (case l_Format___init__ => k_is); (case c_Format___init__ => k_is); (case k_Format___init__ => k_is); (case a_Format_step => k_is); (case i_Format_step => k_is); (case l_Format_step => k_is); (case c_Format_step => k_is); (case k_Format_step => k_is); (case a_Format_led => k_is); (case i_Format_led => k_is); (case l_Format_led => k_is); (case c_Format_led => k_is); (case k_Format_led => k_is); (case x_Format_led => k_is); (case a_Format_is_end => k_is); (case i_Format_is_end => k_is); (case l_Format_is_end => k_is); (case c_Format_is_end => k_is); (case k_Format_is_end => k_is); (case a_Format_has => k_is); (case i_Format_has => k_is); (case l_Format_has => k_is); (case c_Format_has => k_is); (case k_Format_has => k_is); (case a_goals_by_state => k_is); (case l_goals_by_state => k_is); (case c_goals_by_state => k_is); (case k_goals_by_state => k_is); (case a_counts_at_ends => k_is); (case l_counts_at_ends => k_is); (case c_counts_at_ends => k_is); (case k_counts_at_ends => k_is); (case a_longer => k_is); (case l_longer => k_is); (case c_longer => k_is); (case k_longer => k_is); (case a_is_integer => k_is); (case l_is_integer => k_is); (case c_is_integer => k_is); (case k_is_integer => k_is); (case a_is_below => k_is); (case l_is_below => k_is); (case c_is_below => k_is); (case k_is_below => k_is); (case a_is_ascending => k_is); (case l_is_ascending => k_is); (case c_is_ascending => k_is); (case k_is_ascending => k_is); (case a_is_tuple_of => k_is); (case l_is_tuple_of => k_is); (case c_is_tuple_of => k_is); (case k_is_tuple_of => k_is); (case a_useful_moves => k_is); (case l_useful_moves => k_is); (case c_useful_moves => k_is); (case k_useful_moves => k_is); (case a_is_endless => k_is); (case l_is_endless => k_is); (case c_is_endless => k_is); (case k_is_endless => k_is); (case a_is_letter => k_is); (case l_is_letter => k_is); (case c_is_letter => k_is); (case k_is_letter => k_is); (case a_is_word => k_is); (case l_is_word => k_is); (case c_is_word => k_is); (case k_is_word => k_is); (case a_number_of => k_is); (case l_number_of => k_is); (case c_number_of => k_is); (case k_number_of => k_is); (case a_how_many_ahead => k_is); (case l_how_many_ahead => k_is); (case c_how_many_ahead => k_is); (case k_how_many_ahead => k_is); (case a_many_to => k_is); (case l_many_to => k_is); (case c_many_to => k_is); (case k_many_to => k_is); (case a_how_many => k_is); (case l_how_many => k_is); (case c_how_many => k_is); (case k_how_many => k_is); (case a_has_number => k_is); (case l_has_number => k_is); (case c_has_number => k_is); (case k_has_number => k_is); (case a_word_at => k_is); (case l_word_at => k_is); (case c_word_at => k_is); (case k_word_at => k_is); (case a_told_word => k_is); (case l_told_word => k_is); (case c_told_word => k_is); (case k_told_word => k_is); (case a_step => k_is); (case l_step => k_is); (case c_step => k_is); (case k_step => k_is); (case a_wrong_part => k_is); (case l_wrong_part => k_is); (case c_wrong_part => k_is); (case k_wrong_part => k_is); (case a_is_move => k_is); (case l_is_move => k_is); (case c_is_move => k_is); (case k_is_move => k_is); (case a_are_moves => k_is); (case l_are_moves => k_is); (case c_are_moves => k_is); (case k_are_moves => k_is); (case a_are_single => k_is); (case l_are_single => k_is); (case c_are_single => k_is); (case k_are_single => k_is); (case a_are_ends => k_is); (case l_are_ends => k_is); (case c_are_ends => k_is); (case k_are_ends => k_is); (case a_reached => k_is); (case l_reached => k_is); (case c_reached => k_is); (case k_reached => k_is); (case a_met_states => k_is); (case l_met_states => k_is); (case c_met_states => k_is); (case k_met_states => k_is); (case a_live_states => k_is); (case l_live_states => k_is); (case c_live_states => k_is); (case k_live_states => k_is); (case a_useful_states => k_is); (case l_useful_states => k_is); (case c_useful_states => k_is); (case k_useful_states => k_is); (case a_goal_table => k_is); (case l_goal_table => k_is); (case c_goal_table => k_is); (case k_goal_table => k_is); (case a__law_deck => k_is); (case l__law_deck => k_is); (case c__law_deck => k_is); (case k__law_deck => k_is); (case a__law_draw => k_is); (case l__law_draw => k_is); (case c__law_draw => k_is); (case k__law_draw => k_is); (case a__law_pick => k_is); (case l__law_pick => k_is); (case c__law_pick => k_is); (case k__law_pick => k_is); (case a__law_far => k_is); (case l__law_far => k_is); (case c__law_far => k_is); (case k__law_far => k_is); (case a__law_form => k_is); (case l__law_form => k_is); (case c__law_form => k_is); (case k__law_form => k_is); (case a__law_code => k_is); (case l__law_code => k_is); (case c__law_code => k_is); (case k__law_code => k_is); (case a__law_table => k_is); (case l__law_table => k_is); (case c__law_table => k_is); (case k__law_table => k_is); (case a__law_led => k_is); (case l__law_led => k_is); (case c__law_led => k_is); (case k__law_led => k_is); (case a__law_is_endless => k_is); (case l__law_is_endless => k_is); (case c__law_is_endless => k_is); (case k__law_is_endless => k_is); (case a__law_at => k_is); (case l__law_at => k_is); (case c__law_at => k_is); (case k__law_at => k_is); (case a__law_heard => k_is); (case l__law_heard => k_is); (case c__law_heard => k_is); (case k__law_heard => k_is); (case a__law_due => k_is); (case l__law_due => k_is); (case c__law_due => k_is); (case k__law_due => k_is); (case a__law_right => k_is); (case l__law_right => k_is); (case c__law_right => k_is); (case k__law_right => k_is); (case a_law => k_is); (case l_law => k_is); (case c_law => k_is); (case k_law => k_is); (case v_MOST => k_is); (case z_abs => k_is); (case z_all => k_is); (case z_bool => k_is); (case z_dict => k_is); (case z_enumerate => k_is); (case z_int => k_is); (case z_isinstance => k_is); (case z_len => k_is); (case z_list => k_is); (case z_min => k_is); (case z_range => k_is); (case z_repr => k_is); (case z_set => k_is); (case z_sorted => k_is); (case z_str => k_is); (case z_sum => k_is); (case z_tuple => k_is); (case z_zip => k_is)
