import PyProof.Rows.All
import Wide.All
import OpenK.AllK
import Wide.FinOn
import HandS.ForMost
import HandS.IsInst
import HandS.Style
import HandS.Wide
import PyProof.Rows.Digits
import KE.GoesEnum
import HandS.Zip
import HandS.TupAny
import HandS.Codes
import PySem.Challenge.RW_serialhouse_k41_whole_rows_rounds_and_me
import PyProof.ReprBulk
import HandS.Text
import HandS.Lambda
import HandS.Nested
import HandS.EndTab
import HandS.TupLen
import HandS.Conv
import HandS.Dict
import KE.GoesEnumKw
import PyProof.FString3
import PyProof.Rows.StrIntSpec
import HandS.FStr
import HandS.Walk
import HandS.Gcd
import HandS.StrMore
import HandS.WideBits
import PyProof.ReprDict
import PyProof.NeKinds
import PyProof.Rows.IntBool
import PyProof.StrOps2
import HandS.RevTup
import HandS.SetFor
import HandS.Strs
import KE.DataFind
import PyProof.Rows.ReprOcc
import HandS.SortInts
import HandS.SortRule
import HandS.Iter
import HandS.TupMul
set_option Elab.async false
set_option linter.all false
set_option maxRecDepth 100000
/-! Contracts of defs that know the guards: where no text of an object is being told, repr can be asked. -/
namespace SG
open PySem PySem.Spec PyProof.Rows L2

/-- a def's promise, kept wherever no guard stands -/
structure GFn (pr : Program) (wo : World) (K : PySem.W.Frag) (mg : Str → Option Value) (ba : Heap) (cx : CXT) (k : Nat) (f : Addr) (fd : FuncData) (ps : List Str) (sp : Sp) : Prop where
  len : ∀ xs Hx R Ex, sp xs Hx R Ex → xs.length = ps.length
  go : ∀ (B : Around) (fr : List Env) (st : Shared) (Hx : Hp) (ar : Args) (vals : List Value) (xs : List V) (R : VK) (Ex : XK),
    B.guards = some [] → Room k B → Env0 pr wo K mg ba B fr st Hx → BindsTo st fd ar (ps.zip vals) → Vals xs vals → sp xs Hx R Ex →
    codeAny (model pr wo) B (.call (.ref f) ar) (CR cx fr pr wo Hx st R Ex) st

variable {pr : Program} {wo : World} {K : PySem.W.Frag} {mg : Str → Option Value} {ba : Heap} {cx : CXT}

theorem GFn.mono {j k : Nat} {f : Addr} {fd : FuncData} {ps : List Str} {sp : Sp} (F : GFn pr wo K mg ba cx j f fd ps sp) (h : j ≤ k) :
    GFn pr wo K mg ba cx k f fd ps sp :=
  ⟨F.len, fun B fr st Hx ar vals xs R Ex g hr => F.go B fr st Hx ar vals xs R Ex g (hr.mono h)⟩
theorem GFn.imp {k : Nat} {f : Addr} {fd : FuncData} {ps : List Str} {sp sq : Sp} (F : GFn pr wo K mg ba cx k f fd ps sp)
    (h : ∀ xs Hx R Ex, sq xs Hx R Ex → sp xs Hx R Ex) : GFn pr wo K mg ba cx k f fd ps sq :=
  ⟨fun xs Hx R Ex q => F.len xs Hx R Ex (h _ _ _ _ q), fun B fr st Hx ar vals xs R Ex g hr e b v q => F.go B fr st Hx ar vals xs R Ex g hr e b v (h _ _ _ _ q)⟩
/-- what is kept anywhere is kept here -/
theorem GFn.of {k : Nat} {f : Addr} {fd : FuncData} {ps : List Str} {sp : Sp} (F : FnOk pr wo K mg ba cx k f fd ps sp) : GFn pr wo K mg ba cx k f fd ps sp :=
  ⟨F.len, fun B fr st Hx ar vals xs R Ex _ hr => F.run B fr st Hx ar vals xs R Ex hr⟩

/-- a def by its body -/
theorem gfn_of {k : Nat} {f : Addr} {nm qn : Str} {pa : Arguments} {bd : List Stmt} {sc : Scope} {dV kV dc pm cdv ct oc : Value} {an od : Option Addr} {osl : Array (Option Value)} {N ps : List Str} {sp : Sp}
    (lk : K.lookup f = some ⟨oc, od, .func (PySem.W.fnOf nm qn pa bd sc dV kV dc pm an cdv ct), osl⟩) (hcd : PySem.W.codeIn K cdv qn = true) (S : FnScope N ps sc)
    (len : ∀ xs Hx R Ex, sp xs Hx R Ex → xs.length = ps.length)
    (hb : ∀ (B : Around) (fr : List Env) (st : Shared) (Hx : Hp) (xs : List V) (R : VK) (Ex : XK), B.guards = some [] → Room k (B.deeper (envOfC qn sc st.heap.objs.size f cdv)) → sp xs Hx R Ex →
      ∃ t, PSs (cxOf cx pr wo K mg ba N qn sc f cdv B fr st Hx Ex) bd t ∧ t { nx := fun _ H2 => R .non H2, rt := R } (start N xs) Hx) :
    GFn pr wo K mg ba cx (k + 1) f (PySem.W.fnOf nm qn pa bd sc dV kV dc pm an cdv ct) ps sp := by
  refine ⟨len, fun B fr st Hx ar vals xs R Ex g hr e0 hbd rv hsp => ?_⟩
  have KX : K.In st.heap := e0.mod.kin.keeps fun b o e => (e0.bs b o e).1
  have lim : st.heap.NoLimit := e0.mod.nolimit.keeps fun b o e => (e0.bs b o e).1
  have hkn : ∀ y ∈ ps.zip vals, sc.names.lookup y.1 = some .local ∨ (sc.names.lookup y.1 = some .cell ∧ ((cellsFrom (st.heap.objs.size + 1) sc.names []).lookup y.1).isSome = true) := by
    rintro ⟨n, v⟩ hy
    rcases S.par n (List.of_mem_zip hy).1 with q | q
    · exact .inl q
    · exact .inr ⟨q, PySem.W.cellsFrom_some _ _ _ (.inl q)⟩
  refine codeAny_call_function hr.depth (KX _ _ lk) rfl S.co S.gen rfl (PySem.W.codeRec_of KX hcd) (hbd _ _ _ _ ?_)
  refine wpAny_newFunctionEnv_cells S.kind hkn fun env he s1 x => ?_
  subst he
  refine ⟨lim.keeps x.toInCall.keep, codeAny_func ?_⟩
  obtain ⟨t, ht, hq⟩ := hb B fr st Hx xs R Ex g (hr.deeper _) hsp
  have I : Inv (cxOf cx pr wo K mg ba N qn sc f cdv B fr st Hx Ex) [] (start N xs) Hx s1 := inv_start S hr.hd e0 (len _ _ _ _ hsp) rv x
  refine wpAny_mono (ht.run [] s1 (start N xs) Hx _ I hq) (fun fl s2 hs => ?_) fun e s2 hs => hs
  have fin : ∀ {τ : L2.St} {H2 : Hp} {v : V} {u : Value}, Inv (cxOf cx pr wo K mg ba N qn sc f cdv B fr st Hx Ex) [] τ H2 s2 → RelV v u → R v H2 → CE fr pr wo Hx st R u s2 :=
    fun {τ H2 v u} J r1 q => ⟨v, H2, J.os, J.bare, J.base, J.hok, r1, q⟩
  cases fl with
  | ret u => obtain ⟨v, τ, H2, J, r1, q⟩ := hs; exact fin J r1 q
  | next => obtain ⟨τ, H2, J, q⟩ := hs; exact fin (v := V.non) (u := Value.none) J rfl q
  | brk => obtain ⟨_, _, _, q⟩ := hs; exact q.elim
  | cont => obtain ⟨_, _, _, q⟩ := hs; exact q.elim

theorem gfun_ok {x qn : Str} {s0 : Stmt} {f : Addr} {fd : FuncData} {N ps : List Str} {k : Nat} {sp : Sp} (F : Fun K x qn s0 f fd) (S : FnScope N ps (defScope s0)) (len : ∀ xs Hx R Ex, sp xs Hx R Ex → xs.length = ps.length)
    (hb : ∀ (cdv : Value) (B : Around) (fr : List Env) (st : Shared) (Hx : Hp) (xs : List V) (R : VK) (Ex : XK), (B.deeper (envOfC qn (defScope s0) st.heap.objs.size f cdv)).guards = some [] →
      Room k (B.deeper (envOfC qn (defScope s0) st.heap.objs.size f cdv)) → sp xs Hx R Ex →
      ∃ t, PSs (cxOf CX0 pr wo K mg ba N qn (defScope s0) f cdv B fr st Hx Ex).nox (defBody s0) t ∧ t { nx := fun _ H2 => R .non H2, rt := R } (start N xs) Hx) :
    GFn pr wo K mg ba CX0 (k + 1) f fd ps sp := by
  obtain ⟨oc, od, kV, dc, pm, an, cdv, ct, osl, rfl, lk, hcd⟩ := F.ex
  refine gfn_of lk hcd S len fun B fr st Hx xs R Ex g hr hsp => ?_
  obtain ⟨t, h, q⟩ := hb cdv B fr st Hx xs R Ex g hr hsp
  exact ⟨t, h.nox, q⟩

section
variable {X : Cx} {k : Nat} {f : Addr} {fd : FuncData} {ps ks : List Str} {sp : Sp} {dvs : List V} {ds : List Value} {Ex : XK} {x : Str} {p pos : Pos} {e : Expr} {es : List Expr} {kws : List Keyword} {t tk : TA}

theorem end_of {pins : List (Addr × Obj)} {σ : L2.St} {Hx : Hp} {st s2 : Shared} {R : VK} {r : Result} (hx : Passes cx X Ex) (I : Inv X pins σ Hx st) (q : CR cx X.stack X.prog X.w Hx st R Ex r s2) :
    (match r with | .ok (.ret u) => EP X pins σ R u s2 | .ok _ => False | .error e => X.xe e s2) := by
  cases r with
  | error e => exact hx pins σ Hx st e s2 I q
  | ok fl => cases fl <;> first | exact I.after q | exact False.elim q

theorem run_g {pins : List (Addr × Obj)} {σ : L2.St} {Hx : Hp} {st : Shared} {R : VK} {ar : Args} {vals : List Value} {xs : List V} (F : GFn X.prog X.w X.K X.mg X.base cx k f fd ps sp) (hg : X.A.guards = some []) (hr : Room k X.A) (hx : Passes cx X Ex)
    (I : Inv X pins σ Hx st) (hb : BindsTo st fd ar (ps.zip vals)) (r : Vals xs vals) (h : sp xs Hx R Ex) {us : List Value} {kw : List (Str × Value)} (ea : ar = ⟨us, kw⟩) : wpAny (model X.prog X.w) X.A (call (.ref f) us kw) (EP X pins σ R) X.xe st := by
  subst ea
  refine wpAny_call (codeAny_mono (F.go X.A X.stack st Hx _ vals xs R Ex hg hr I.env0 hb r h) fun r s2 hq => ?_)
  have z := end_of hx I hq
  cases r with
  | error e => exact z
  | ok fl => cases fl <;> exact z

/-- f(a, ..) -/
theorem pe_g (F : GFn X.prog X.w X.K X.mg X.base cx k f fd ps sp) (hgu : X.A.guards = some []) (hr : Room k X.A) (hg : Gl X x) (hm : X.mg x = some (.ref f)) (hk : PySem.W.keepIn X.K (.ref f) = true) (hb : Binds X.K fd ps ds) (hd : Vals dvs ds) (hx : Passes cx X Ex)
    (ha : PA X (e :: es) t) (hdb : (x == ("__debug__" : Str)) = false := by decide) (he : starEach (e :: es) X.env = (false, eval e X.env) :: starEach es X.env := by rfl) (hpl : (backTo pos (starEach es X.env)).any (·.1) = false := by rfl) :
    PE X (.Call (.Name x p) (e :: es) [] pos) (tCall sp dvs Ex t) := by
  refine ⟨fun pins st σ Hx R I h => wpAny_Call_Name_kw (ld_glob I hg hm ?_ hdb)⟩
  refine PySem.W.callWith_K (h₀ := X.base) I.ok.mod.kin hk (thn (ha.run pos pins st σ Hx _ I h) ?_) he hpl
  rintro us s1 ⟨vs, H1, I1, r, q⟩
  have r2 : Vals (vs ++ dvs) (us ++ ds) := r.append hd
  exact ⟨I1.kIn, run_g F hgu hr hx I1 (hb s1 us I1.kIn (by rw [← r2.length]; exact F.len _ _ _ _ q)) r2 q rfl⟩

/-- f(a, .., k = b, ..) -/
theorem pe_gK {g : List Value → List Value → List Value} {gV : List V → List V → List V} (F : GFn X.prog X.w X.K X.mg X.base cx k f fd ps sp) (hgu : X.A.guards = some []) (hr : Room k X.A) (hg : Gl X x) (hm : X.mg x = some (.ref f)) (hk : PySem.W.keepIn X.K (.ref f) = true)
    (hb : KBinds X.K fd ps ks g gV) (hx : Passes cx X Ex) (ha : PA X (e :: es) t) (hkw : PK X kws tk) (hall : (backToKw pos (keywordEach kws X.env)).all (·.1.isSome) = true := by rfl) (hks : (backToKw pos (keywordEach kws X.env)).filterMap (·.1) = ks := by rfl)
    (hdb : (x == ("__debug__" : Str)) = false := by decide) (he : starEach (e :: es) X.env = (false, eval e X.env) :: starEach es X.env := by rfl)
    (hpl : ((backTo pos (starEach (e :: es) X.env)).any (·.1) || (backToKw pos (keywordEach kws X.env)).any (·.1.isNone)) = false := by rfl) :
    PE X (.Call (.Name x p) (e :: es) kws pos) (tCallK sp gV Ex t tk) := by
  refine ⟨fun pins st σ Hx R I h => wpAny_Call_Name_kw (ld_glob I hg hm ?_ hdb)⟩
  refine PySem.W.callWith_KW (h₀ := X.base) I.ok.mod.kin hk hall (thn (ha.run pos pins st σ Hx _ I h) ?_) hpl he
  rintro us s1 ⟨vs, H1, I1, r, q⟩
  refine thn (hkw.run pos pins s1 σ H1 _ I1 q) ?_
  rintro ws s2 ⟨zs, H2, I2, rz, q2⟩
  refine ⟨I2.kIn, ?_⟩
  rw [hks]
  have r2 := hb.rel r rz
  exact run_g F hgu hr hx I2 (hb.to s2 us ws I2.kIn (by rw [← r2.length]; exact F.len _ _ _ _ q2)) r2 q2 rfl
/-- f(k = b, ..) -/
theorem pe_gK0 {g : List Value → List Value → List Value} {gV : List V → List V → List V} (F : GFn X.prog X.w X.K X.mg X.base cx k f fd ps sp) (hgu : X.A.guards = some []) (hr : Room k X.A) (hg : Gl X x) (hm : X.mg x = some (.ref f)) (hk : PySem.W.keepIn X.K (.ref f) = true)
    (hb : KBinds X.K fd ps ks g gV) (hx : Passes cx X Ex) (hkw : PK X kws tk) (hall : (backToKw pos (keywordEach kws X.env)).all (·.1.isSome) = true := by rfl) (hks : (backToKw pos (keywordEach kws X.env)).filterMap (·.1) = ks := by rfl)
    (hdb : (x == ("__debug__" : Str)) = false := by decide) (hpl : ((backTo pos (starEach [] X.env)).any (·.1) || (backToKw pos (keywordEach kws X.env)).any (·.1.isNone)) = false := by rfl) :
    PE X (.Call (.Name x p) [] kws pos) (tCallK sp gV Ex tNil tk) := by
  refine ⟨fun pins st σ Hx R I h => wpAny_Call_Name_kw (ld_glob I hg hm ?_ hdb)⟩
  refine PySem.W.callWith_KW0 (h₀ := X.base) I.ok.mod.kin hk hall (thn (hkw.run pos pins st σ Hx _ I h) ?_) hpl
  rintro ws s2 ⟨zs, H2, I2, rz, q2⟩
  refine ⟨I2.kIn, ?_⟩
  rw [hks]
  have r2 := hb.rel (Paired.nil : Vals [] []) rz
  exact run_g F hgu hr hx I2 (hb.to s2 [] ws I2.kIn (by rw [← r2.length]; exact F.len _ _ _ _ q2)) r2 q2 rfl
end

/-! ### the law's own call -/
theorem law_g {mb : Str → Option Value} {k : Nat} {fa a : Addr} {fd : FuncData} {x : Str} {sp : Sp} {s1 : Shared} {its : List Value} {ns : List Int}
    (KX : K.In s1.heap) (hmg : s1.heap.Ns mainGlobals mg) (hmb : s1.heap.Ns builtinsNs mb) (hbb : ∀ x : Str, x ≠ "__name__" → mb x = bootBuiltins x) (hlim : s1.heap.NoLimit) (hdig : s1.heap.NoDigits) (hgen : s1.gens = #[])
    (ha : s1.heap.get? a = some { cls := .type "list", data := .seq its.toArray }) (hi : IntsAre its ns) (hl : ns.length ≤ sizeLine) (hr : Room k callerA)
    (F : ∀ ba : Heap, K.In ba → ba.Ns mainGlobals mg → ba.NoDigits → GFn pr wo K mg ba CX0 k fa fd [x] sp) (hbi : ∀ (st : Shared) (u : Value), BindsTo st fd ⟨[u], []⟩ [(x, u)])
    (hsp : ∀ Hx : Hp, Only Hx → SqL K Hx a (ns.map V.int) → sp [.ref a] Hx (fun v _ => v = .bl true) E0) :
    codeAny (model pr wo) callerA (.call (.ref fa) ⟨[.ref a], []⟩) (fun r s2 => r = .ok (.ret (.bool true)) ∧ OldK s1.heap s2.heap ∧ s2.os = s1.os ∧ AllBare s2.gens) s1 := by
  have rv := vals_ints hi
  have main : ∀ Hx : Hp, Only Hx → SqL K Hx a (ns.map V.int) → HOk pr wo Hx s1.heap → (∀ b, Hx b ≠ none → b = a) → (Hx a ≠ none → K.lookup a = none) →
      codeAny (model pr wo) callerA (.call (.ref fa) ⟨[.ref a], []⟩) (fun r s2 => r = .ok (.ret (.bool true)) ∧ OldK s1.heap s2.heap ∧ s2.os = s1.os ∧ AllBare s2.gens) s1 := by
    intro Hx hO hS ok one free
    have isA : ∀ {b : Addr} {u : HO}, Hx b = some u → b = a := fun {b u} q => one b (by rw [q]; nofun)
    have hid : ∀ {b : Addr} {o : Obj}, s1.heap.get? b = some o → Hx b = none → (hidT s1.heap Hx).get? b = some o := fun e n => hidT_get e n
    have noD : ∀ {b : Addr} {o : Obj} {es : Array DictEntry} {ep : Nat}, s1.heap.get? b = some o → o.data = .dict es ep → Hx b = none := by
      intro b o es ep e d
      rcases q : Hx b with _ | u
      · rfl
      · rw [isA q, ha] at e
        cases e
        cases d
    have nsH : ∀ {b : Addr} {m : Str → Option Value}, s1.heap.Ns b m → (hidT s1.heap Hx).Ns b m := by
      rintro b m ⟨o, es, ep, e, d, r⟩
      exact ⟨o, es, ep, hid e (noD e d), d, r⟩
    have kin : K.In (hidT s1.heap Hx) := by
      intro b o e
      refine hid (KX b o e) ?_
      rcases q : Hx b with _ | u
      · rfl
      · have eb := isA q
        subst eb
        rw [free (by rw [q]; nofun)] at e
        cases e
    have hM : Mod K mg (hidT s1.heap Hx) := ⟨kin, nsH hmg, ⟨mb, nsH hmb, hbb⟩, by obtain ⟨mc, h1, h2⟩ := hlim; exact ⟨mc, nsH h1, h2⟩⟩
    have e0 : Env0 pr wo K mg (hidT s1.heap Hx) callerA [] s1 Hx := ⟨rfl, hM, fun b o e => of_hidT e, Nat.le_of_eq (hidT_size _ _), trivial, fun b hb => (nomatch hb), ok, .of_eq hgen⟩
    refine codeAny_mono ((F _ kin (nsH hmg) (by obtain ⟨mc, h1, h2⟩ := hdig; exact ⟨mc, nsH h1, h2⟩)).go callerA [] s1 Hx ⟨[.ref a], []⟩ [.ref a] [.ref a] _ _ rfl hr e0 (hbi s1 (.ref a)) (.cons rfl .nil) (hsp Hx hO hS)) fun r s2 h => ?_
    rcases r with e | fl
    · exact False.elim h
    · cases fl with
      | next => exact False.elim h
      | brk => exact False.elim h
      | cont => exact False.elim h
      | ret u =>
        obtain ⟨v, H2, os, bare, un, ok2, r2, q⟩ := h
        obtain rfl : v = .bl true := q
        obtain rfl : u = Value.bool true := r2
        refine ⟨rfl, OldK.of_keep fun b o e => ?_, os, bare⟩
        rcases q : Hx b with _ | u
        · exact un.keep b o e q (fun z => nomatch z) (fun z => nomatch z)
        · rcases hO b with z | ⟨ob, xs, z⟩
          · rw [q] at z; cases z
          · obtain ⟨e1, _⟩ := ok b _ z
            obtain ⟨e2, _⟩ := ok2 b _ (un.frzs b ob _ z)
            rw [e] at e1
            cases e1
            exact e2
  rcases hk : K.lookup a with _ | o
  · refine main (fun b => if b = a then some (.frz { cls := .type "list", data := .seq its.toArray } (.lst (ns.map V.int))) else none) (fun b => ?_) (.inl (.inr ⟨_, if_pos rfl⟩)) (fun b u z => ?_) (fun b z => ?_) fun _ => hk
    · by_cases hb : b = a
      · exact .inr ⟨_, _, if_pos hb⟩
      · exact .inl (if_neg hb)
    · by_cases hb : b = a
      · cases (if_pos hb).symm.trans z
        subst hb
        exact ⟨ha, by rw [List.length_map]; exact hl, its, _, rv, ha⟩
      · cases (if_neg hb).symm.trans z
    · by_cases hb : b = a
      · exact hb
      · exact absurd (if_neg hb) z
  · have e := KX a o hk
    rw [ha] at e
    cases e
    exact main (fun _ => none) (fun _ => .inl rfl) (.inr ⟨_, its.toArray, _, hk, rfl, rfl, rfl, by rw [List.size_toArray, hi.length]; exact hl, by simpa using rv⟩) (fun b u z => nomatch z) (fun b z => absurd rfl z) fun z => absurd rfl z

theorem walk_g {l : PySem.W.OpenLaw} {n k : Nat} {q : Program} {loose : List Str} {XP : (Str → Option Value) → Heap → Prop} {YP : World → Heap → Prop} {d : DefRec} {K : Params → PySem.W.Frag} {sp : PySem.W.Frag → Sp} {x : Str}
    (hn : l.most = some n) (hn2 : n ≤ sizeLine) (hdf : d.params.defaults = []) (hr : Room k callerA)
    (hY : ∀ (wo : World) (h : Heap), YP wo h → (K wo.params).In h)
    (F : ∀ (wo : World) (mg : Str → Option Value) (fa : Addr) (h : Heap), (K wo.params).In h → h.Ns mainGlobals mg → mg d.name = some (.ref fa) →
      ∃ fd : FuncData, (∀ (st : Shared) (u : Value), BindsTo st fd ⟨[u], []⟩ [(x, u)]) ∧
        ∀ ba : Heap, (K wo.params).In ba → ba.Ns mainGlobals mg → ba.NoDigits → GFn l.prog wo (K wo.params) mg ba CX0 k fa fd [x] (sp (K wo.params)))
    (hsp : ∀ (K : PySem.W.Frag) (Hx : Hp) (a : Addr) (ns : List Int), ns.length ≤ n → Only Hx → SqL K Hx a (ns.map V.int) → sp K [.ref a] Hx (fun v _ => v = .bl true) E0) :
    PySem.W.WalkO q loose XP YP l.row.toRowW d [] (fun f vs => PySem.call f vs) := by
  refine Att.attach_call hn hdf fun w s₀ s₁ mg mb fa o pm cd doc a vs ns G Y ho hd hcd hmg hobj hints hlen hg => ?_
  have KX := hY w _ Y
  obtain ⟨fd, hb, hF⟩ := F w mg fa _ KX G.T.g hmg
  exact law_g KX G.T.g G.T.b G.T.builtins G.T.nolimit G.T.nodigits hg hobj hints (Nat.le_trans hlen hn2) hr hF hb fun Hx hO hS => hsp _ Hx a ns hlen hO hS
end SG

/-! repr of data at any depth, with ints of up to 4300 figures. -/
namespace SG
open PySem PySem.Spec PyProof.Rows L2

mutual
/-- data whose ints can be told -/
def tellable : PyData → Bool
  | .int i => decide (i.natAbs < 10 ^ 4300)
  | .list xs => tellableAll xs
  | .tuple xs => tellableAll xs
  | .dict _ => false
  | .none => true
  | .bool _ => true
  | .str _ => true
def tellableAll : List PyData → Bool
  | [] => true
  | x :: xs => tellable x && tellableAll xs
end

section
variable {pr : Program} {wo : World} {B : Around} {Er : Value → Shared → Prop} {st : Shared}
theorem int_told {i : Int} {t : Tok} {Q : Value → Shared → Prop} (hn : st.heap.NoDigits) (hi : i.natAbs < 10 ^ 4300) (hq : Q (.str (toString i) st.toks) { st with toks := st.toks + 1 }) :
    wpAny (model pr wo) B (call (.builtin "int.__repr__") [.int i t]) Q Er st := by
  refine wpAny_call_entry F.slot_int_repr (typeIs_int st i t) F.entry_int_repr ?_ (F.args_int_repr_1 _)
  unfold Builtin.«int.__repr__»
  show wpAny _ _ (Builtin.overDigitLimit? i >>= _) _ _ st
  exact wpAny_bind (overDigitLimit_any hn (fun h => wpAny_bind (wpAny_mkStr (wpAny_pure ⟨_, rfl, hq⟩) (int_text_fits10 h))) fun h => absurd hi (Nat.not_lt.mpr h))
theorem int_shown {i : Int} {t : Tok} {Q : Value → Shared → Prop} (hu : B.units < cLine) (hn : st.heap.NoDigits) (hi : i.natAbs < 10 ^ 4300) (hq : Q (.str (toString i) st.toks) { st with toks := st.toks + 1 }) :
    wpAny (model pr wo) B (pyReprObj (.int i t)) Q Er st :=
  wpAny_pyReprObj_slot hu (typeIs_int _ i t) F.slot_int_repr.toG (int_told hn hi ⟨_, _, rfl, hq⟩)
theorem int_repr {i : Int} {t : Tok} {Q : Value → Shared → Prop} (hu : B.units + 1 < cLine) (hn : st.heap.NoDigits) (hi : i.natAbs < 10 ^ 4300) (hq : Q (.str (toString i) st.toks) { st with toks := st.toks + 1 }) :
    wpAny (model pr wo) B (call (.builtin "repr") [.int i t]) Q Er st :=
  call_repr_slot hu (typeIs_int _ i t) F.slot_int_repr.toG (int_told hn hi ⟨_, _, rfl, hq⟩)
theorem reprK_int {as : List Addr} {h₀ : Heap} {i : Int} {t : Tok} (hn : h₀.NoDigits) (hi : i.natAbs < 10 ^ 4300) (d : Nat) : ReprK pr wo as h₀ d (.int i t) (toString i) := by
  intro base hb A g E s Q hg hcl hu hk hQ
  rw [pyReprUnder_leaf (v := .int i t) (by omega) (fun _ e => nomatch e)]
  unfold pyRepr
  exact wpAny_bind (int_shown (by omega) (hn.keeps hk) hi (wpAny_pure (hQ s.heap _ fun _ _ e => e)))
mutual
theorem reprK_any {h₀ : Heap} (hn : h₀.NoDigits) : ∀ {v : Value} {d : PyData} {as : List Addr}, Reads h₀ v d as → tellable d = true → d.shown.length ≤ sizeLine →
    ∃ bs, ReadAtMost h₀ d.depth bs ∧ ReprK pr wo bs h₀ d.depth v d.shown := by
  intro v d as r ht hz
  cases r with
  | none => exact ⟨[], (fun _ h => nomatch h), by simp only [PyData.shown]; exact .of_is ReprIs.none _ _ _⟩
  | bool b => exact ⟨[], (fun _ h => nomatch h), by simp only [PyData.shown]; exact .of_is (ReprIs.bool b) _ _ _⟩
  | str x t => exact ⟨[], (fun _ h => nomatch h), by simp only [PyData.shown] at hz ⊢; exact .of_is (ReprIs.str x t hz) _ _ _⟩
  | int i t => exact ⟨[], (fun _ h => nomatch h), by simp only [PyData.shown]; exact reprK_int hn (of_decide_eq_true (by simpa only [tellable] using ht)) _⟩
  | list q1 q2 q3 q4 =>
    rename_i a o arr n xs bs₀
    have hz2 : (listText (PyData.shownAll xs)).length ≤ sizeLine := by simpa only [PyData.shown] using hz
    obtain ⟨bs, rb, kb⟩ := reprAllK_any hn q4 (by simpa [tellable] using ht) fun t m => Nat.le_trans (listText_mem_le m) hz2
    have whole : Reads h₀ (.ref a) (.list xs) _ := .list q1 q2 q3 q4
    refine ⟨a :: bs, ReadAtMost.cons whole (by simp only [PyData.depth]; omega) rb, ?_⟩
    have notIn : a ∉ bs := not_mem_of_deeper whole (by simp only [PyData.depth]; omega) rb
    simp only [PyData.depth, PyData.shown]
    rcases arr with ⟨_ | ⟨y, l⟩⟩
    · cases (show ReadsAll h₀ [] xs _ from q4)
      simp only [PyData.shownAll, listText_nil]
      exact ReprK.listEmpty q1 q2 q3
    · exact ReprK.list q1 q2 q3 notIn (by simpa using kb.length_eq) fun i y e => kb.item i y (by simpa using e)
  | tuple q1 q2 q3 q4 =>
    rename_i a o arr n xs
    have hz2 : (tupleText (PyData.shownAll xs)).length ≤ sizeLine := by simpa only [PyData.shown] using hz
    obtain ⟨bs, rb, kb⟩ := reprAllK_any hn q4 (by simpa [tellable] using ht) fun t m => Nat.le_trans (tupleText_mem_le m) hz2
    have whole : Reads h₀ (.ref a) (.tuple xs) _ := .tuple q1 q2 q3 q4
    refine ⟨a :: bs, ReadAtMost.cons whole (by simp only [PyData.depth]; omega) rb, ?_⟩
    have notIn : a ∉ bs := not_mem_of_deeper whole (by simp only [PyData.depth]; omega) rb
    simp only [PyData.depth, PyData.shown]
    exact ReprK.tuple q1 q2 q3 notIn kb
  | dict => simp [tellable] at ht
theorem reprAllK_any {h₀ : Heap} (hn : h₀.NoDigits) : ∀ {vs : List Value} {ds : List PyData} {as : List Addr}, ReadsAll h₀ vs ds as → tellableAll ds = true → (∀ t ∈ PyData.shownAll ds, t.length ≤ sizeLine) →
    ∃ bs, ReadAtMost h₀ (PyData.depthAll ds) bs ∧ ReprAllK pr wo bs h₀ (PyData.depthAll ds) vs (PyData.shownAll ds) := by
  intro vs ds as r ht hz
  cases r with
  | nil => exact ⟨[], (fun _ h => nomatch h), by simp only [PyData.shownAll]; exact .nil⟩
  | cons q1 q2 =>
    rename_i v vs d ds as₁ as₂
    have ht2 : tellable d = true ∧ tellableAll ds = true := by simpa [tellableAll] using ht
    obtain ⟨c1, rc1, k1⟩ := reprK_any hn q1 ht2.1 (hz _ (by simp only [PyData.shownAll]; exact List.mem_cons_self))
    obtain ⟨c2, rc2, k2⟩ := reprAllK_any hn q2 ht2.2 fun t m => hz t (by simp only [PyData.shownAll]; exact List.mem_cons_of_mem _ m)
    refine ⟨c1 ++ c2, (rc1.mono ?_).append (rc2.mono ?_), ?_⟩
    · simp only [PyData.depthAll]; exact Nat.le_max_left _ _
    · simp only [PyData.depthAll]; exact Nat.le_max_right _ _
    · simp only [PyData.depthAll, PyData.shownAll]
      exact .cons ((k1.more fun b m => List.mem_append_left _ m).level_le (Nat.le_max_left _ _)) (k2.more_le (fun b m => List.mem_append_right _ m) (Nat.le_max_right _ _))
end
/-- repr of what is no leaf -/
theorem repr_ref {h₀ : Heap} {a : Addr} {d : PyData} {as : List Addr} {Q : Value → Shared → Prop} (hn : h₀.NoDigits) (r : Reads h₀ (.ref a) d as) (ht : tellable d = true) (hz : d.shown.length ≤ sizeLine)
    (hg : B.guards = some []) (hu : B.units + (d.depth + 1) < cLine) (hk : ∀ b o, h₀.get? b = some o → st.heap.get? b = some o)
    (hQ : ∀ h2 u tk, (∀ b o, st.heap.get? b = some o → h2.get? b = some o) → Q (.str d.shown u) { st with heap := h2, toks := tk }) :
    wpAny (model pr wo) B (call (.builtin "repr") [.ref a]) Q Er st := by
  cases r with
  | list q1 q2 q3 q4 =>
    rename_i o arr n xs bs₀
    have whole : Reads h₀ (.ref a) (.list xs) _ := .list q1 q2 q3 q4
    simp only [PyData.depth] at hu
    simp only [PyData.shown] at hQ hz
    obtain ⟨bs, rb, kb⟩ := reprAllK_any (pr := pr) (wo := wo) hn q4 (by simpa [tellable] using ht) fun t m => Nat.le_trans (listText_mem_le m) hz
    have notIn : a ∉ bs := not_mem_of_deeper whole (by simp only [PyData.depth]; omega) rb
    refine call_repr_slot (by omega) ⟨o, hk _ _ q1, q2⟩ F.slot_list_repr.toG ?_
    rcases arr with ⟨_ | ⟨y, l⟩⟩
    · cases (show ReadsAll h₀ [] xs _ from q4)
      simp only [PyData.shownAll, listText_nil] at hQ
      exact call_list_repr_empty ⟨o, hk _ _ q1, q2⟩ (hk _ _ q1) q3 ⟨_, _, rfl, hQ st.heap _ _ fun _ _ e => e⟩
    · exact call_list_reprK q1 q2 q3 notIn (by simpa using kb.length_eq) (fun i y e => kb.item i y (by simpa using e)) hg (fun b _ => Clear.nil b) (by show B.units + 1 + _ < _; omega) hk (fun h2 u tk q => ⟨_, _, rfl, hQ h2 u tk q⟩) hz
  | tuple q1 q2 q3 q4 =>
    rename_i o arr n xs
    have whole : Reads h₀ (.ref a) (.tuple xs) _ := .tuple q1 q2 q3 q4
    simp only [PyData.depth] at hu
    simp only [PyData.shown] at hQ hz
    obtain ⟨bs, rb, kb⟩ := reprAllK_any (pr := pr) (wo := wo) hn q4 (by simpa [tellable] using ht) fun t m => Nat.le_trans (tupleText_mem_le m) hz
    have notIn : a ∉ bs := not_mem_of_deeper whole (by simp only [PyData.depth]; omega) rb
    refine call_repr_slot (by omega) ⟨o, hk _ _ q1, q2⟩ F.slot_tuple_repr ?_
    exact call_tuple_reprK q1 q2 q3 notIn kb hg (fun b _ => Clear.nil b) (by show B.units + 1 + _ < _; omega) hk (fun h2 u tk q => ⟨_, _, rfl, hQ h2 u tk q⟩) hz
  | dict => simp [tellable] at ht
/-- repr of the empty dict -/
theorem repr_dict0 {a : Addr} {o : Obj} {n : Nat} {Q : Value → Shared → Prop} (q1 : st.heap.get? a = some o) (q2 : o.cls = .type "dict") (q3 : o.data = .dict #[] n) (hs : (a == sysModules) = false)
    (hg : B.guards = some []) (hu : B.units + 2 < cLine)
    (hQ : ∀ h2 u tk, (∀ b o, st.heap.get? b = some o → h2.get? b = some o) → Q (.str "{}" u) { st with heap := h2, toks := tk }) :
    wpAny (model pr wo) B (call (.builtin "repr") [.ref a]) Q Er st := by
  have r : Reads st.heap (.ref a) (.dict []) ([a] ++ []) := .dict (as := []) (bs := []) q1 q2 q3 .nil .nil
  refine repr_of_reads' (d := .dict []) r rfl (fun _ m => ?_) hg (by show B.units + (PyData.depth (.dict []) + 1) < _; simp only [PyData.depth, PyData.depthKv]; omega) (fun _ _ e => e) ?_ (by decide +kernel)
  · have e : sysModules = a := by simpa using m
    rw [e] at hs
    simp at hs
  · have e : PyData.shown (.dict []) = "{}" := by decide +kernel
    rw [e]
    exact hQ
end

section
variable {X : Cx}
/-- no limit of its own was put to the figures of ints -/
theorem digs {pins : List (Addr × Obj)} {σ : L2.St} {Hx : Hp} {st : Shared} (hn : X.base.NoDigits) (I : Inv X pins σ Hx st) : st.heap.NoDigits := hn.keeps I.bk
def rRepr (K : PySem.W.Frag) : List V → Hp → VK → Prop := fun xs Hx R => ∃ x, xs = [x] ∧
  ((∃ d, Dp K Hx x d ∧ tellable d = true ∧ d.depth ≤ 60 ∧ d.shown.length ≤ sizeLine ∧ R (.str d.shown) Hx) ∨ (∃ a, x = .ref a ∧ Hx a = some (.dK []) ∧ R (.str "{}") Hx))
theorem call_reprG (hn : X.base.NoDigits) (hg : X.A.guards = some []) {k : Nat} (hr : Room k X.A) : CallR X (.builtin "repr") (rRepr X.K) := by
  intro pins st σ Hx xs us R I rv h
  obtain ⟨x, rfl, h⟩ := h
  obtain ⟨u, rfl, rx⟩ : ∃ u, us = [u] ∧ RelV x u := by
    cases rv with
    | cons a b => cases b; exact ⟨_, rfl, a⟩
  have hu := hr.units
  rcases h with ⟨d, hd, ht, hdep, hz, q⟩ | ⟨a, rfl, ha, q⟩
  · cases x with
    | ref a =>
      obtain ⟨as, r⟩ := Dp.reads I d (.ref a) u hd rx
      obtain rfl : u = Value.ref a := rx
      exact repr_ref (digs hn I) r ht hz hg (by omega) (fun _ _ e => e) fun h2 u tk hk => ⟨.str _, Hx, I.kept (t' := tk) hk, ⟨_, rfl⟩, q⟩
    | int i =>
      obtain ⟨t, rfl⟩ := rx
      cases hd
      simp only [PyData.shown] at q
      exact int_repr (by omega) (digs hn I) (of_decide_eq_true (by simpa only [tellable] using ht)) ⟨.str _, Hx, I.tok _, ⟨_, rfl⟩, q⟩
    | str y =>
      obtain ⟨t, rfl⟩ := rx
      cases hd
      simp only [PyData.shown] at q hz
      exact PySem.P.repr_of_str ⟨.str _, Hx, I.tok _, ⟨_, rfl⟩, q⟩ hz
    | bl b =>
      obtain rfl : u = Value.bool b := rx
      cases hd
      simp only [PyData.shown] at q
      exact PySem.P.repr_of_bool ⟨.str _, Hx, I.tok _, ⟨_, rfl⟩, q⟩
    | non =>
      obtain rfl : u = Value.none := rx
      cases hd
      simp only [PyData.shown] at q
      exact PySem.P.repr_of_none ⟨.str _, Hx, I.tok _, ⟨_, rfl⟩, q⟩
    | byt b => cases hd
    | flt b => cases hd
    | ty b => cases hd
  · obtain rfl : u = Value.ref a := rx
    obtain ⟨_, hs, vs, kv, o, es, ep, e1, e2, e3, e4, e5, _⟩ := I.hok a _ ha
    cases kv
    have e6 : es = #[] := by
      cases es with
      | mk l => cases l with
        | nil => rfl
        | cons y l => cases e5
    subst e6
    exact repr_dict0 e1 e2.1 e3 hs hg (by omega) fun h2 u tk hk => ⟨.str _, Hx, I.kept (t' := tk) hk, ⟨_, rfl⟩, q⟩
end
end SG

/-! enumerate of a tuple. -/
namespace SG
open PySem PySem.Spec PyProof.Rows L2

set_option maxHeartbeats 1000000 in
theorem meets_enum1 {v : Value} {o : Obj} {Ho : Heap → Prop} (B : Begins v o Ho) :
    Meets (Builtin.«enumerate.__new__» ⟨[.type "enumerate", v], []⟩) (fun _ R st => Ho st.heap ∧
      R (.ok (.ret (.ref (st.heap.push o).objs.size))) { st with heap := (st.heap.push o).push { cls := .type "enumerate", data := .fields #[.none, .bool false, .ref st.heap.objs.size, rawInt 0, .none, .none] } }) :=
  .of_wp fun prog w A R st h => by
    obtain ⟨hp, g, d, tk, os⟩ := st
    obtain ⟨h1, h⟩ := h
    have hsub := sub_enumerate
    have it1 : ∀ {A' : Around} {E : Value → Shared → Prop} {Q : Value → Shared → Prop}, Q (.ref hp.objs.size) ⟨hp.push o, g, d, tk, os⟩ → wpAny (model prog w) A' (pyIter v) Q E ⟨hp, g, d, tk, os⟩ :=
      fun q => B.iter prog w _ _ ⟨hp, g, d, tk, os⟩ _ h1 q
    wp_walk using it1
    refine wpAny_stack_any fun stk => wpAny_pure ?_
    split
    · rename_i c _ _ _ _ _
      cases (c == Value.type "enumerate")
      · wp_walk using it1
        exact ⟨_, rfl, h⟩
      · wp_walk using it1
        exact ⟨_, rfl, h⟩
    · wp_walk using it1
      exact ⟨_, rfl, h⟩
section
variable {prog : Program} {w : World} {A : Around} {E : Value → Shared → Prop} {st : Shared}
theorem enum1_begins {v : Value} {o : Obj} {Ho : Heap → Prop} {Q : Value → Shared → Prop} (B : Begins v o Ho) (h1 : Ho st.heap)
    (h : ∀ h2, IsEnum h2 (st.heap.objs.size + 1) st.heap.objs.size 0 .none → h2.get? st.heap.objs.size = some o → h2.objs.size = st.heap.objs.size + 2 →
      (∀ b u, st.heap.get? b = some u → h2.get? b = some u) → Q (.ref (st.heap.objs.size + 1)) { st with heap := h2 }) :
    wpAny (model prog w) A (call (.type "enumerate") [v]) Q E st := by
  refine callType_new F.called_enumerate (by decide) (F.typeCall_enumerate_1 _) (F.newCall_enumerate_1 _) (fun obj => F.args_object_init_2 obj _) F.entry_enumerate_new (meets_enum1 B) ⟨h1, ?_⟩
  have hz : (st.heap.push o).objs.size = st.heap.objs.size + 1 := Heap.size_push ..
  show _ ∧ _
  rw [hz]
  have he : IsEnum ((st.heap.push o).push { cls := .type "enumerate", data := .fields #[.none, .bool false, .ref st.heap.objs.size, rawInt 0, .none, .none] }) (st.heap.objs.size + 1) st.heap.objs.size 0 .none := by
    have z := Heap.get?_push_size (st.heap.push o) (o := { cls := .type "enumerate", data := .fields #[.none, .bool false, .ref st.heap.objs.size, rawInt 0, .none, .none] }) rfl
    rw [hz] at z
    exact z
  exact ⟨⟨_, he, rfl⟩, h _ he (Heap.get?_push_of_some _ (Heap.get?_push_size _ B.free)) (by rw [Heap.size_push, hz]) fun b u x => Heap.get?_push_of_some _ (Heap.get?_push_of_some _ x)⟩
end

/-- the tuple at a, each item in a new pair -/
def IteT (K : PySem.W.Frag) (a : Addr) : It :=
  ⟨fun i Hx => ∃ (xs : List V) (x : V), SqT K Hx a xs ∧ xs[i]? = some x, fun i Hx v H2 => ∃ T x, v = .ref T ∧ Hx T = none ∧ H2 = upd Hx T (.tup [.int (i : Nat), x]) ∧ ∀ xs, SqT K Hx a xs → xs[i]? = some x, fun i Hx => ∃ xs : List V, SqT K Hx a xs ∧ xs.length ≤ i⟩
theorem turn_enumT {P : Program} {w : World} {K : PySem.W.Frag} {elts : List Expr} {kk : Nat} {tpos : Pos} (a e it : Addr) :
    Turn P w K (.Tuple elts kk tpos) (IteT K a) [e, it] e (fun i h => (∃ old, IsEnum h e it ((i : Nat) : Int) old) ∧ h.IsTupleIter it a i ∧ e ≠ it ∧ a ≠ it ∧ a ≠ e) where
  mem := by simp
  obj := fun i h q b hb => by
    obtain ⟨⟨old, he⟩, ⟨o, ho, hc, hd⟩, _⟩ := q
    rcases (show b = e ∨ b = it by simpa using hb) with z | z
    · rw [z]; exact ⟨_, he, fun v q => nomatch q⟩
    · rw [z]; exact ⟨o, ho, fun v q => by rw [hd] at q; cases q⟩
  keep := fun i h h2 q k => by
    obtain ⟨⟨old, he⟩, hi, hne⟩ := q
    exact ⟨⟨old, k e (by simp) _ he⟩, hi.at fun o q => k it (by simp) o q, hne⟩
  item := by
    intro X hP hw hK hc i pins st σ Hx E I hf q hg
    subst hP hw hK
    obtain ⟨⟨old, he⟩, hit, hne, n1, n2⟩ := q
    obtain ⟨xs, x, hq, hx⟩ := hg
    obtain ⟨its, rv, p, hz⟩ := I.tuple hq
    obtain ⟨u, hu, ru⟩ := rv.get hx
    have hel : e < st.heap.objs.size := Heap.lt_size he
    have hil : it < st.heap.objs.size := by obtain ⟨_, z, _⟩ := hit; exact Heap.lt_size z
    have hi : i < its.toArray.size := by
      have z := (List.getElem?_eq_some_iff.mp hu).1
      simpa using z
    refine wpAny_pyNext_enum_itemD (Draws.tuple (prog := X.prog) (w := X.w) (A := X.A.in1) (I.ok.hd hc) it a n1 its.toArray) he ⟨hit, p⟩ hi hne (by simp [hne, n2.symm]) fun y h1 tk hy ho hs1 hT hsz hk => ?_
    obtain rfl : y = u := by
      rw [show its.toArray[i]? = some u by simpa using hu] at hy
      exact (Option.some.inj hy).symm
    refine ⟨_, rfl, wpAny_letOwnedTupleGo_enum (s := { st with heap := h1, toks := tk + 1 }) ho fun h2 he2 sb => ?_⟩
    have hT2 : h2.get? st.heap.objs.size = some { cls := .type "tuple", data := .seq #[.int i tk, y] } := (sb.2 _ (Nat.ne_of_gt hel)).trans hT
    have new : ObjOk X.prog X.w (upd Hx st.heap.objs.size (.tup [.int (i : Nat), x])) h2 st.heap.objs.size (.tup [.int (i : Nat), x]) :=
      ⟨by show 2 ≤ sizeLine; decide, [.int i tk, y], .cons ⟨_, rfl⟩ (.cons ru .nil), ⟨_, hT2, rfl, _, rfl⟩⟩
    have I1 : L2.Inv X pins σ (upd Hx st.heap.objs.size (.tup [.int (i : Nat), x])) { st with heap := h2, toks := tk + 1 } :=
      I.turnedNew (ch := [e, it]) (fun b ob hb z => (sb.2 b (fun z => hb (by simp [z]))).trans (hk b ob (fun z => hb (by simp [z])) (fun z => hb (by simp [z])) z)) hf (Nat.le_refl _) new
    refine ⟨.ref st.heap.objs.size, _, I1, rfl, ⟨_, x, rfl, I.hok.fresh (Nat.le_refl _), rfl, fun ys hy => by rw [I.tuple_inj hy hq]; exact hx⟩, ⟨⟨y, ?_⟩, hs1.1.at fun o z => (sb.2 it (Ne.symm hne)).trans z, hne, n1, n2⟩, fun b hb => ?_⟩
    · rw [show ((i + 1 : Nat) : Int) = (i : Int) + 1 by omega]
      exact he2
    · have hb2 : b < st.heap.objs.size := by
        rcases (show b = e ∨ b = it by simpa using hb) with z | z
        · rw [z]; exact hel
        · rw [z]; exact hil
      rw [upd_ne (Nat.ne_of_lt hb2)]
      exact (hf b hb).1
  done := by
    intro X hP hw hK hc i pins st σ Hx E I hf q hg
    subst hP hw hK
    obtain ⟨⟨old, he⟩, hit, hne, n1, n2⟩ := q
    obtain ⟨xs, hq, hx⟩ := hg
    obtain ⟨its, rv, p, hz⟩ := I.tuple hq
    obtain ⟨f0, f1, f2, f3, f4, f5⟩ := hf it (by simp)
    have hl := rv.length
    have D : Draws X.prog X.w X.A.in1 it [it, a] i (fun _ _ => True) (fun j h => j = i ∧ h.IsTupleIter it a i ∧ h.IsTuple a its.toArray) :=
      { live := fun _ _ z => by obtain ⟨_, ⟨o, ho, _⟩, _⟩ := z; exact ⟨o, ho⟩
        frame := fun _ _ _ z hk => ⟨z.1, z.2.1.at fun o e => hk it (by simp) o e, z.2.2.at fun o e => hk a (by simp) o e⟩
        item := fun j s Q E hj z => absurd z.1 (Nat.ne_of_lt hj)
        done := fun s Q E z hE => wpAny_nextOf_tuple_end (I.ok.hd hc) z.2.1 z.2.2 (by simp; omega) hE }
    exact wpAny_pyNext_enum_endD D he ⟨rfl, hit, p⟩ fun h2 eb => ⟨rfl, I.turned (t' := st.toks) (fun b o hb q => eb b o hb q) f0 f1 f3 f4 f5⟩
  self := fun A i st Q E q h => by
    obtain ⟨⟨_, he⟩, _⟩ := q
    exact wpAny_pyIter_enum he h
def iEnumT (K : PySem.W.Frag) (ta : TA) : TI := fun σ Hx R => ta σ Hx fun vs H1 => ∃ a xs, vs = [.ref a] ∧ SqT K H1 a xs ∧ R (IteT K a) H1
theorem pi_enumT {X : Cx} {e : Expr} {ta : TA} {p pos tpos : Pos} {elts : List Expr} {kk : Nat} (hg : Gl X "enumerate") (hm : X.mg "enumerate" = none) (ha : PA X [e] ta) (hs : starEach [e] X.env = [(false, eval e X.env)] := by rfl) :
    PI X (.Tuple elts kk tpos) (.Call (.Name "enumerate" p) [e] [] pos) (iEnumT X.K ta) := by
  refine ⟨fun pins st σ Hx R I h => ?_⟩
  refine Call_ (ld_blt I hg hm boot_enumerate (PyProof.Rows.callWith_type1 (thn (ha.run pos pins st σ Hx _ I h) ?_) hs rfl))
  rintro us s1 ⟨vs, H1, I1, r1, a, xs, rfl, hq, q⟩
  obtain ⟨u, rfl, ru⟩ : ∃ u, us = [u] ∧ RelV (.ref a) u := by
    cases r1 with
    | cons x y => cases y; exact ⟨_, rfl, x⟩
  obtain rfl : u = Value.ref a := ru
  obtain ⟨its, rv, p2, hz⟩ := I1.tuple hq
  have al : a < s1.heap.objs.size := p2.lt
  refine enum1_begins (begins_tuple a its.toArray) p2 fun h2 he hit hsz hk => wpAny_pyIter_enum he ?_
  have I2 : L2.Inv X pins σ H1 { s1 with heap := h2 } := I1.kept (t' := s1.toks) hk
  refine ⟨s1.heap.objs.size + 1, [s1.heap.objs.size + 1, s1.heap.objs.size], _, _, H1, rfl, I2, turn_enumT a (s1.heap.objs.size + 1) s1.heap.objs.size,
    ⟨⟨.none, he⟩, ⟨_, hit, rfl, rfl⟩, Nat.succ_ne_self _, Nat.ne_of_lt al, Nat.ne_of_lt (Nat.lt_succ_of_lt al)⟩, fun b hb => ?_, q⟩
  have hle : s1.heap.objs.size ≤ b := by
    rcases (show b = s1.heap.objs.size + 1 ∨ b = s1.heap.objs.size by simpa using hb) with z | z
    · rw [z]; exact Nat.le_succ _
    · rw [z]; exact Nat.le_refl _
  exact I1.fpOk hle (I1.hok.fresh hle)
end SG

/-! The deck that laws draw from; what stays when it is drawn from. -/
namespace SG
open PySem PySem.Spec PyProof.Rows L2

abbrev kC : Key := Sum.inr ("cells" : Str)
abbrev kM : Key := Sum.inr ("mixed" : Str)
abbrev kD : Key := Sum.inr ("draws" : Str)
theorem kne1 : ¬ kC = kM := by decide +kernel
theorem kne2 : ¬ kC = kD := by decide +kernel
theorem kne3 : ¬ kM = kD := by decide +kernel
def deckO (l : Addr) (m n : Int) : List (Key × V) := [(kC, .ref l), (kM, .int m), (kD, .int n)]
theorem deck_cells (l : Addr) (m n : Int) : valV (deckO l m n) kC = some (.ref l) := valV_pos rfl
theorem deck_mixed (l : Addr) (m n : Int) : valV (deckO l m n) kM = some (.int m) := (valV_neg kne1).trans (valV_pos rfl)
theorem deck_draws (l : Addr) (m n : Int) : valV (deckO l m n) kD = some (.int n) := (valV_neg kne2).trans ((valV_neg kne3).trans (valV_pos rfl))
theorem deck_put (l : Addr) (m n k : Int) : putK (deckO l m n) kD (.int k) = deckO l m k := by
  have e : (decide (kD = kD)) = true := decide_eq_true rfl
  show (if (decide (kC = kD) || (decide (kM = kD) || (decide (kD = kD) || false))) = true then [if kC = kD then (kC, V.int k) else (kC, V.ref l), if kM = kD then (kM, V.int k) else (kM, V.int m), if kD = kD then (kD, V.int k) else (kD, V.int n)] else _) = _
  rw [decide_eq_false kne2, decide_eq_false kne3, e, if_neg kne2, if_neg kne3, if_pos rfl]
  rfl
theorem deck_made (l : Addr) (m n : Int) : mergeK [] (deckO l m n) = deckO l m n := by
  have e1 : putK ([] : List (Key × V)) kC (.ref l) = [(kC, .ref l)] := rfl
  have e2 : putK [(kC, V.ref l)] kM (.int m) = [(kC, .ref l), (kM, .int m)] := by
    show (if (decide (kC = kM) || false) = true then _ else [(kC, V.ref l)] ++ [(kM, V.int m)]) = _
    rw [decide_eq_false kne1]
    rfl
  have e3 : putK [(kC, V.ref l), (kM, V.int m)] kD (.int n) = deckO l m n := by
    show (if (decide (kC = kD) || (decide (kM = kD) || false)) = true then _ else [(kC, V.ref l), (kM, V.int m)] ++ [(kD, V.int n)]) = _
    rw [decide_eq_false kne2, decide_eq_false kne3]
    rfl
  show putK (putK (putK [] kC (.ref l)) kM (.int m)) kD (.int n) = _
  rw [e1, e2, e3]

/-- a deck stands at d, its cells at l; it was asked at most c times -/
def Deck (H : Hp) (d l : Addr) (c : Nat) : Prop :=
  ∃ (cs : List Int) (m n : Int), H d = some (.dK (deckO l m n)) ∧ H l = some (.lst (cs.map V.int)) ∧ (0 ≤ m ∧ m < 2147483648) ∧ (0 ≤ n ∧ n ≤ (c : Int)) ∧ cs.length ≤ 63
/-- all stays but the deck and its cells -/
def Kept (d l : Addr) (H H2 : Hp) : Prop := ∀ b o, H b = some o → b ≠ d → b ≠ l → H2 b = some o
theorem Kept.refl (d l : Addr) (H : Hp) : Kept d l H H := fun _ _ e _ _ => e
theorem Kept.trans {d l : Addr} {H H1 H2 : Hp} (a : Kept d l H H1) (b : Kept d l H1 H2) : Kept d l H H2 := fun c o e h1 h2 => b c o (a c o e h1 h2) h1 h2
theorem Kept.of {d l : Addr} {H H1 : Hp} (a : Same H H1) : Kept d l H H1 := fun c o e _ _ => a c o e
theorem Deck.mono {H : Hp} {d l : Addr} {c e : Nat} (D : Deck H d l c) (h : c ≤ e) : Deck H d l e := by
  obtain ⟨cs, m, n, h1, h2, h3, h4, h5⟩ := D
  exact ⟨cs, m, n, h1, h2, h3, ⟨h4.1, by omega⟩, h5⟩
theorem Deck.same {H H1 : Hp} {d l : Addr} {c : Nat} (D : Deck H d l c) (s : Same H H1) : Deck H1 d l c := by
  obtain ⟨cs, m, n, h1, h2, h3⟩ := D
  exact ⟨cs, m, n, s _ _ h1, s _ _ h2, h3⟩
theorem Deck.upd {H : Hp} {d l p : Addr} {c : Nat} {o : HO} (D : Deck H d l c) (hp : H p = none) : Deck (upd H p o) d l c := by
  obtain ⟨cs, m, n, h1, h2, h3⟩ := D
  exact ⟨cs, m, n, by rw [upd_ne (ne_of_none h1 hp)]; exact h1, by rw [upd_ne (ne_of_none h2 hp)]; exact h2, h3⟩
theorem same_new {H : Hp} {p : Addr} {o : HO} (h : H p = none) : Same H (upd H p o) := fun b x e => by
  rw [upd_ne (ne_of_none e h)]
  exact e
/-- tuples stay -/
theorem Kept.tup {K : PySem.W.Frag} {d l : Addr} {H H2 : Hp} {c : Nat} {a : Addr} {xs : List V} (k : Kept d l H H2) (D : Deck H d l c) (h : SqT K H a xs) : SqT K H2 a xs := by
  obtain ⟨cs, m, n, h1, h2, _⟩ := D
  rcases h with (h | ⟨o, h⟩) | h
  · exact .inl (.inl (k _ _ h (ne_of h h1 nofun) (ne_of h h2 nofun)))
  · exact .inl (.inr ⟨o, k _ _ h (ne_of h h1 nofun) (ne_of h h2 nofun)⟩)
  · exact .inr h
theorem sameT {K : PySem.W.Frag} {H H2 : Hp} {a : Addr} {xs : List V} (s : Same H H2) (h : SqT K H a xs) : SqT K H2 a xs := by
  rcases h with (h | ⟨o, h⟩) | h
  · exact .inl (.inl (s _ _ h))
  · exact .inl (.inr ⟨o, s _ _ h⟩)
  · exact .inr h
/-! ### ints as data -/
def dI (ns : List Int) : List PyData := ns.map PyData.int
theorem dpInts {K : PySem.W.Frag} {H : Hp} : ∀ ns : List Int, DpAll K H (ns.map V.int) (dI ns)
  | [] => .nil
  | n :: ns => .cons (.int n) (dpInts ns)
theorem layI : ∀ ns : List Int, PyData.canLayAll0 (dI ns) = true
  | [] => by simp [dI, PyData.canLayAll0]
  | n :: ns => by
    show PyData.canLayAll0 (PyData.int n :: dI ns) = true
    simp [PyData.canLayAll0, PyData.canLay0, layI ns]
theorem depI : ∀ ns : List Int, PyData.depthAll (dI ns) = 0
  | [] => by simp [dI, PyData.depthAll]
  | n :: ns => by
    show PyData.depthAll (PyData.int n :: dI ns) = 0
    simp [PyData.depthAll, PyData.depth, depI ns]
theorem shI (ns : List Int) : SeqAt.shaped (.list (dI ns)) = true := by
  simp [SeqAt.shaped, PyData.canLay0, PyData.depth, layI, depI]
theorem shTI (ns : List Int) : SeqAt.shaped (.tuple (dI ns)) = true := by
  simp [SeqAt.shaped, PyData.canLay0, PyData.depth, layI, depI]
theorem eqvI_nil : ∀ ns : List Int, PyData.eqv (.list (dI ns)) (.list []) = ns.isEmpty
  | [] => by simp [dI, PyData.eqv, PyData.eqvAll]
  | n :: ns => by
    show PyData.eqv (.list (PyData.int n :: dI ns)) (.list []) = false
    simp [PyData.eqv, PyData.eqvAll]
theorem dgCells {H : Hp} {d l : Addr} {m n : Int} (h : H d = some (.dK (deckO l m n))) : DGet H d (.str "cells") (some (.ref l)) := by
  have z := DGet.k (k := kC) h
  rw [deck_cells] at z
  exact z
theorem dgMixed {H : Hp} {d l : Addr} {m n : Int} (h : H d = some (.dK (deckO l m n))) : DGet H d (.str "mixed") (some (.int m)) := by
  have z := DGet.k (k := kM) h
  rw [deck_mixed] at z
  exact z
theorem dgDraws {H : Hp} {d l : Addr} {m n : Int} (h : H d = some (.dK (deckO l m n))) : DGet H d (.str "draws") (some (.int n)) := by
  have z := DGet.k (k := kD) h
  rw [deck_draws] at z
  exact z
theorem dpDraws {H : Hp} {d l : Addr} {m n : Int} (k : Int) (h : H d = some (.dK (deckO l m n))) : DPut H d (.str "draws") (.int k) (upd H d (.dK (deckO l m k))) := by
  have z := DPut.k (k := kD) (v := .int k) h (by show 3 < sizeLine; decide)
  rw [deck_put] at z
  exact z
theorem ifT {b : Bool} {A B : Prop} (h : b = true) (a : A) : if b = true then A else B := by
  rw [if_pos h]
  exact a
theorem ifF {b : Bool} {A B : Prop} (h : b = false) (a : B) : if b = true then A else B := by
  rw [h]
  exact iteF a
theorem mod_lo {a b : Int} (h : 0 < b) : 0 ≤ a % b := Int.emod_nonneg a (by omega)
theorem mod_hi {a b : Int} (h : 0 < b) : a % b < b := Int.emod_lt_of_pos a h
end SG

namespace SG
open PySem PySem.Spec PyProof.Rows L2

theorem Kept.lst {K : PySem.W.Frag} {d l : Addr} {H H2 : Hp} {c : Nat} {a : Addr} {xs : List V} (k : Kept d l H H2) (D : Deck H d l c) (hl : a ≠ l) (h : SqL K H a xs) : SqL K H2 a xs := by
  obtain ⟨cs, m, n, h1, h2, _⟩ := D
  rcases h with (h | ⟨o, h⟩) | h
  · exact .inl (.inl (k _ _ h (ne_of h h1 nofun) hl))
  · exact .inl (.inr ⟨o, k _ _ h (ne_of h h1 nofun) hl⟩)
  · exact .inr h
theorem Deck.ne {H : Hp} {d l p : Addr} {c : Nat} (D : Deck H d l c) (h : H p = none) : p ≠ d ∧ p ≠ l := by
  obtain ⟨cs, m, n, h1, h2, _⟩ := D
  exact ⟨(ne_of_none h1 h).symm, (ne_of_none h2 h).symm⟩
theorem wipe1 (σ : L2.St) (s : Nat) (x : Option V) : wipe ((wipe σ [s]).set s x) [s] = wipe σ [s] := by
  show (List.set (List.set (List.set σ s none) s x) s none) = List.set σ s none
  rw [List.set_set, List.set_set]
theorem yesI {A B : Hp → Prop} {σ : L2.St} {H : Hp} (h : A H) : tYes σ H (fun b H4 => if b = true then A H4 else B H4) := by
  show (if (true : Bool) = true then A H else B H)
  rw [if_pos rfl]
  exact h
/-- a list of ints that are drawn, turn by turn -/
theorem lc_draws {d l D : Addr} {c n s : Nat} {te : TE} {σ : L2.St} {H1 : Hp} {Qd : Hp → Prop} {B : Int → Prop} (D0 : Deck H1 d l c) (hD : H1 D = none) (hn : n ≤ 1000)
    (turn : ∀ (i : Nat) (H2 : Hp), i < n → Deck H2 d l (c + i) → Kept d l H1 H2 → ∀ R : VK, (∀ (x : Int) (H3 : Hp), B x → Deck H3 d l (c + i + 1) → Kept d l H2 H3 → R (.int x) H3) → te ((wipe σ [s]).set s (some (.int (0 + i)))) H2 R)
    (done : ∀ (xs : List Int) (H2 : Hp), xs.length = n → (∀ x ∈ xs, B x) → H2 D = some (.lst (xs.map V.int)) → Deck H2 d l (c + n) → Kept d l H1 H2 → Qd H2) :
    ∃ W : Nat → Nat → Hp → Prop, (∃ m, W 0 m (upd H1 D (.lst []))) ∧ ∀ i m H, W i m H →
      ((Itr 0 n).stop i H ∧ Qd H) ∨ ((Itr 0 n).go i H ∧ ∃ Nx : Hp → Prop, (∀ H2, Nx H2 → ∃ m2, m2 < m ∧ W (i + 1) m2 H2) ∧ ∀ x H2, (Itr 0 n).yld i H x H2 → gName s x (wipe σ [s]) H2 fun σ2 H3 => wipe σ2 [s] = wipe σ [s] ∧ tYes σ2 H3 fun b H4 =>
        if b = true then te σ2 H4 fun y H5 => ∃ acc, H5 D = some (.lst acc) ∧ acc.length < sizeLine ∧ Nx (upd H5 D (.lst (acc ++ [y]))) else Nx H4) := by
  obtain ⟨nd, nl⟩ := D0.ne hD
  refine lc_range (fun i H2 => ∃ xs : List Int, xs.length = i ∧ (∀ x ∈ xs, B x) ∧ H2 D = some (.lst (xs.map V.int)) ∧ Deck H2 d l (c + i) ∧ Kept d l H1 H2) ?_ ?_ ?_
  · exact ⟨[], rfl, (fun _ h => absurd h List.not_mem_nil), upd_same, D0.upd hD, .of (same_new hD)⟩
  · rintro i H2 hi ⟨xs, hx, hB, hD2, D2, k2⟩
    refine ⟨wipe1 _ _ _, ?_⟩
    refine yesI ?_
    refine turn i H2 hi D2 k2 _ fun x H3 hb D3 k3 => ⟨xs.map V.int, k3 _ _ hD2 nd nl, ?_, xs ++ [x], by simp [hx], fun y hy => ?_, ?_, ?_, ?_⟩
    · rw [List.length_map, hx]
      exact small1000 (by omega)
    · rcases List.mem_append.mp hy with h | h
      · exact hB y h
      · rw [List.mem_singleton.mp h]; exact hb
    · rw [upd_same, List.map_append]
      rfl
    · obtain ⟨cs, m, k, h1, h2, h3⟩ := D3
      exact ⟨cs, m, k, by rw [upd_ne nd.symm]; exact h1, by rw [upd_ne nl.symm]; exact h2, h3⟩
    · intro b o e h1 h2
      rw [upd_ne (ne_of_none e hD)]
      exact k3 _ _ (k2 _ _ e h1 h2) h1 h2
  · rintro H2 ⟨xs, hx, hB, hD2, D2, k2⟩
    exact done xs H2 hx hB hD2 D2 k2
end SG

namespace SG
open PySem PySem.Spec PyProof.Rows L2

/-- a comprehension over enumerate of a tuple -/
theorem lc_enumT {K : PySem.W.Frag} {a D : Addr} {xs : List V} {g : TG} {tt : TT} {te : TE} {vs : List Nat} {σ : L2.St} {H1 : Hp} {Qd : Hp → Prop} (Pv : Nat → Hp → Prop) (h0 : Pv 0 (upd H1 D (.lst []))) (hl : ∀ i H, i ≤ xs.length → Pv i H → SqT K H a xs)
    (hs : ∀ (i : Nat) (x : V) (H : Hp) (T : Addr), xs[i]? = some x → Pv i H → H T = none → g (.ref T) (wipe σ vs) (upd H T (.tup [.int (i : Nat), x])) fun σ2 H2 => wipe σ2 vs = wipe σ vs ∧ tt σ2 H2 fun b H3 =>
      if b = true then te σ2 H3 fun y H4 => ∃ acc, H4 D = some (.lst acc) ∧ acc.length < sizeLine ∧ Pv (i + 1) (upd H4 D (.lst (acc ++ [y]))) else Pv (i + 1) H3) (hd : ∀ H, Pv xs.length H → Qd H) :
    ∃ W : Nat → Nat → Hp → Prop, (∃ m, W 0 m (upd H1 D (.lst []))) ∧ ∀ i m H, W i m H →
      ((IteT K a).stop i H ∧ Qd H) ∨ ((IteT K a).go i H ∧ ∃ Nx : Hp → Prop, (∀ H2, Nx H2 → ∃ m2, m2 < m ∧ W (i + 1) m2 H2) ∧ ∀ x H2, (IteT K a).yld i H x H2 → g x (wipe σ vs) H2 fun σ2 H3 => wipe σ2 vs = wipe σ vs ∧ tt σ2 H3 fun b H4 =>
        if b = true then te σ2 H4 fun y H5 => ∃ acc, H5 D = some (.lst acc) ∧ acc.length < sizeLine ∧ Nx (upd H5 D (.lst (acc ++ [y]))) else Nx H4) := by
  refine ⟨fun i m H => m = xs.length - i ∧ i ≤ xs.length ∧ Pv i H, ⟨xs.length, by simp, Nat.zero_le _, h0⟩, ?_⟩
  rintro i m H ⟨rfl, hi, p⟩
  have q := hl i H hi p
  rcases Nat.lt_or_eq_of_le hi with hlt | rfl
  · refine .inr ⟨⟨xs, xs[i], q, by simp [hlt]⟩, Pv (i + 1), fun H2 p2 => ⟨xs.length - (i + 1), by omega, rfl, hlt, p2⟩, ?_⟩
    rintro x H2 ⟨T, x, rfl, hT, rfl, hx⟩
    exact hs i x H T (hx xs q) p hT
  · exact .inl ⟨⟨xs, q, Nat.le_refl _⟩, hd H p⟩
theorem wipe2 (σ : L2.St) (s1 s2 : Nat) (x y : Option V) : wipe (((wipe σ [s1, s2]).set s1 x).set s2 y) [s1, s2] = wipe σ [s1, s2] := by
  show List.set (List.set (List.set (List.set (List.set (List.set σ s2 none) s1 none) s1 x) s2 y) s2 none) s1 none = List.set (List.set σ s2 none) s1 none
  by_cases e : s1 = s2
  · subst e
    simp [List.set_set]
  · have z1 : List.set (List.set (List.set (List.set σ s2 none) s1 none) s1 x) s2 y = List.set (List.set (List.set σ s2 none) s1 x) s2 y := by rw [List.set_set]
    rw [z1]
    refine List.ext_getElem? fun i => ?_
    simp only [List.getElem?_set, List.length_set]
    split <;> split <;> rfl
  -- rw [List.set_set, List.set_comm x none e, List.set_set, List.set_comm none none (Ne.symm e), List.set_set]
theorem same_upd_of {H H2 : Hp} {p : Addr} {o : HO} (s : Same H H2) (h : H p = none) : Same H (upd H2 p o) := fun b x e => by
  rw [upd_ne (ne_of_none e h)]
  exact s _ _ e
/-- .. whose items are told ahead, and that makes new objects alone -/
theorem lc_enumS {K : PySem.W.Frag} {a D : Addr} {xs ys : List V} {te : TE} {s1 s2 : Nat} {σ : L2.St} {H1 : Hp} {Qd : Hp → Prop} (hn : xs.length ≤ 1000) (hD : H1 D = none) (hS : SqT K H1 a xs) (hy : ys.length = xs.length)
    (turn : ∀ (i : Nat) (x y : V) (H2 : Hp), xs[i]? = some x → ys[i]? = some y → Same H1 H2 → ∀ R : VK, (∀ H3, Same H2 H3 → R y H3) → te (((wipe σ [s1, s2]).set s1 (some (.int (i : Nat)))).set s2 (some x)) H2 R)
    (done : ∀ H2, Same H1 H2 → H2 D = some (.lst ys) → Qd H2) :
    ∃ W : Nat → Nat → Hp → Prop, (∃ m, W 0 m (upd H1 D (.lst []))) ∧ ∀ i m H, W i m H →
      ((IteT K a).stop i H ∧ Qd H) ∨ ((IteT K a).go i H ∧ ∃ Nx : Hp → Prop, (∀ H2, Nx H2 → ∃ m2, m2 < m ∧ W (i + 1) m2 H2) ∧ ∀ x H2, (IteT K a).yld i H x H2 → gTup K 2 (gCons (gName s1) (gCons (gName s2) gNil)) x (wipe σ [s1, s2]) H2 fun σ2 H3 => wipe σ2 [s1, s2] = wipe σ [s1, s2] ∧ tYes σ2 H3 fun b H4 =>
        if b = true then te σ2 H4 fun y H5 => ∃ acc, H5 D = some (.lst acc) ∧ acc.length < sizeLine ∧ Nx (upd H5 D (.lst (acc ++ [y]))) else Nx H4) := by
  refine lc_enumT (xs := xs) (fun i H2 => Same H1 H2 ∧ H2 D = some (.lst (ys.take i))) ⟨same_new hD, by rw [upd_same, List.take_zero]⟩ (fun i H2 _ p => sameT p.1 hS) ?_ ?_
  · rintro i x H2 T hx ⟨s, h2⟩ hT
    have hi : i < ys.length := by rw [hy]; exact (List.getElem?_eq_some_iff.mp hx).1
    have hyi : ys[i]? = some ys[i] := List.getElem?_eq_getElem hi
    refine ⟨T, _, rfl, .inl (.inl upd_same), rfl, _, _, rfl, _, _, rfl, rfl, wipe2 _ _ _ _ _, ?_⟩
    refine yesI ?_
    have s1 : Same H1 (upd H2 T (.tup [.int (i : Nat), x])) := s.trans (same_new hT)
    have hD2 : (upd H2 T (.tup [.int (i : Nat), x])) D = some (.lst (ys.take i)) := same_new hT _ _ h2
    refine turn i x _ _ hx hyi s1 _ fun H3 s3 => ⟨ys.take i, s3 _ _ hD2, ?_, same_upd_of (s1.trans s3) hD, ?_⟩
    · rw [List.length_take]
      exact small1000 (by omega)
    · rw [upd_same, List.take_add_one, hyi]
      rfl
  · rintro H2 ⟨s, h2⟩
    refine done H2 s ?_
    rw [h2, ← hy, List.take_length]
end SG

namespace SG
open PySem PySem.Spec PyProof.Rows L2
/-- a comprehension over a tuple, whose items are told ahead, and that makes new objects alone -/
theorem lc_tupS {K : PySem.W.Frag} {a D : Addr} {xs ys : List V} {te : TE} {s : Nat} {σ : L2.St} {H1 : Hp} {Qd : Hp → Prop} (hn : xs.length ≤ 1000) (hD : H1 D = none) (hS : SqT K H1 a xs) (hy : ys.length = xs.length)
    (turn : ∀ (i : Nat) (x y : V) (H2 : Hp), xs[i]? = some x → ys[i]? = some y → Same H1 H2 → ∀ R : VK, (∀ H3, Same H2 H3 → R y H3) → te ((wipe σ [s]).set s (some x)) H2 R)
    (done : ∀ H2, Same H1 H2 → H2 D = some (.lst ys) → Qd H2) :
    ∃ W : Nat → Nat → Hp → Prop, (∃ m, W 0 m (upd H1 D (.lst []))) ∧ ∀ i m H, W i m H →
      ((Itt K a).stop i H ∧ Qd H) ∨ ((Itt K a).go i H ∧ ∃ Nx : Hp → Prop, (∀ H2, Nx H2 → ∃ m2, m2 < m ∧ W (i + 1) m2 H2) ∧ ∀ x H2, (Itt K a).yld i H x H2 → gName s x (wipe σ [s]) H2 fun σ2 H3 => wipe σ2 [s] = wipe σ [s] ∧ tYes σ2 H3 fun b H4 =>
        if b = true then te σ2 H4 fun y H5 => ∃ acc, H5 D = some (.lst acc) ∧ acc.length < sizeLine ∧ Nx (upd H5 D (.lst (acc ++ [y]))) else Nx H4) := by
  refine lc_tup (xs := xs) (fun i H2 => Same H1 H2 ∧ H2 D = some (.lst (ys.take i))) ⟨same_new hD, by rw [upd_same, List.take_zero]⟩ (fun i H2 _ p => sameT p.1 hS) ?_ ?_
  · rintro i x H2 hx ⟨sm, h2⟩
    have hi : i < ys.length := by rw [hy]; exact (List.getElem?_eq_some_iff.mp hx).1
    have hyi : ys[i]? = some ys[i] := List.getElem?_eq_getElem hi
    refine ⟨wipe1 _ _ _, ?_⟩
    refine yesI ?_
    refine turn i x _ _ hx hyi sm _ fun H3 s3 => ⟨ys.take i, s3 _ _ h2, ?_, same_upd_of (sm.trans s3) hD, ?_⟩
    · rw [List.length_take]
      exact small1000 (by omega)
    · rw [upd_same, List.take_add_one, hyi]
      rfl
  · rintro H2 ⟨sm, h2⟩
    refine done H2 sm ?_
    rw [h2, ← hy, List.take_length]
/-- the same over a list -/
theorem lc_listS {K : PySem.W.Frag} {a D : Addr} {xs ys : List V} {te : TE} {s : Nat} {σ : L2.St} {H1 : Hp} {Qd : Hp → Prop} (hn : xs.length ≤ 1000) (hD : H1 D = none) (hS : SqL K H1 a xs) (hy : ys.length = xs.length)
    (turn : ∀ (i : Nat) (x y : V) (H2 : Hp), xs[i]? = some x → ys[i]? = some y → Same H1 H2 → ∀ R : VK, (∀ H3, Same H2 H3 → R y H3) → te ((wipe σ [s]).set s (some x)) H2 R)
    (done : ∀ H2, Same H1 H2 → H2 D = some (.lst ys) → Qd H2) :
    ∃ W : Nat → Nat → Hp → Prop, (∃ m, W 0 m (upd H1 D (.lst []))) ∧ ∀ i m H, W i m H →
      ((Itl K a).stop i H ∧ Qd H) ∨ ((Itl K a).go i H ∧ ∃ Nx : Hp → Prop, (∀ H2, Nx H2 → ∃ m2, m2 < m ∧ W (i + 1) m2 H2) ∧ ∀ x H2, (Itl K a).yld i H x H2 → gName s x (wipe σ [s]) H2 fun σ2 H3 => wipe σ2 [s] = wipe σ [s] ∧ tYes σ2 H3 fun b H4 =>
        if b = true then te σ2 H4 fun y H5 => ∃ acc, H5 D = some (.lst acc) ∧ acc.length < sizeLine ∧ Nx (upd H5 D (.lst (acc ++ [y]))) else Nx H4) := by
  refine lc_list (xs := xs) (fun i H2 => Same H1 H2 ∧ H2 D = some (.lst (ys.take i))) ⟨same_new hD, by rw [upd_same, List.take_zero]⟩ (fun i H2 _ p => p.1.seq hS) ?_ ?_
  · rintro i x H2 hx ⟨sm, h2⟩
    have hi : i < ys.length := by rw [hy]; exact (List.getElem?_eq_some_iff.mp hx).1
    have hyi : ys[i]? = some ys[i] := List.getElem?_eq_getElem hi
    refine ⟨wipe1 _ _ _, ?_⟩
    refine yesI ?_
    refine turn i x _ _ hx hyi sm _ fun H3 s3 => ⟨ys.take i, s3 _ _ h2, ?_, same_upd_of (sm.trans s3) hD, ?_⟩
    · rw [List.length_take]
      exact small1000 (by omega)
    · rw [upd_same, List.take_add_one, hyi]
      rfl
  · rintro H2 ⟨sm, h2⟩
    refine done H2 sm ?_
    rw [h2, ← hy, List.take_length]
/-- the same over a list, its target a pair -/
theorem lc_listP {K : PySem.W.Frag} {a D : Addr} {xs ys : List V} {te : TE} {s1 s2 : Nat} {σ : L2.St} {H1 : Hp} {Qd : Hp → Prop} (hn : xs.length ≤ 1000) (hD : H1 D = none) (hS : SqL K H1 a xs) (hy : ys.length = xs.length)
    (turn : ∀ (i : Nat) (x y : V) (H2 : Hp), xs[i]? = some x → ys[i]? = some y → Same H1 H2 → ∃ p u v, x = .ref p ∧ SqT K H2 p [u, v] ∧ ∀ R : VK, (∀ H3, Same H2 H3 → R y H3) → te (((wipe σ [s1, s2]).set s1 (some u)).set s2 (some v)) H2 R)
    (done : ∀ H2, Same H1 H2 → H2 D = some (.lst ys) → Qd H2) :
    ∃ W : Nat → Nat → Hp → Prop, (∃ m, W 0 m (upd H1 D (.lst []))) ∧ ∀ i m H, W i m H →
      ((Itl K a).stop i H ∧ Qd H) ∨ ((Itl K a).go i H ∧ ∃ Nx : Hp → Prop, (∀ H2, Nx H2 → ∃ m2, m2 < m ∧ W (i + 1) m2 H2) ∧ ∀ x H2, (Itl K a).yld i H x H2 → gTup K 2 (gCons (gName s1) (gCons (gName s2) gNil)) x (wipe σ [s1, s2]) H2 fun σ2 H3 => wipe σ2 [s1, s2] = wipe σ [s1, s2] ∧ tYes σ2 H3 fun b H4 =>
        if b = true then te σ2 H4 fun y H5 => ∃ acc, H5 D = some (.lst acc) ∧ acc.length < sizeLine ∧ Nx (upd H5 D (.lst (acc ++ [y]))) else Nx H4) := by
  refine lc_list (xs := xs) (fun i H2 => Same H1 H2 ∧ H2 D = some (.lst (ys.take i))) ⟨same_new hD, by rw [upd_same, List.take_zero]⟩ (fun i H2 _ p => p.1.seq hS) ?_ ?_
  · rintro i x H2 hx ⟨sm, h2⟩
    have hi : i < ys.length := by rw [hy]; exact (List.getElem?_eq_some_iff.mp hx).1
    have hyi : ys[i]? = some ys[i] := List.getElem?_eq_getElem hi
    obtain ⟨p, u, v, rfl, hp, tn⟩ := turn i x _ _ hx hyi sm
    refine ⟨p, _, rfl, hp, rfl, _, _, rfl, _, _, rfl, rfl, wipe2 _ _ _ _ _, ?_⟩
    refine yesI ?_
    refine tn _ fun H3 s3 => ⟨ys.take i, s3 _ _ h2, ?_, same_upd_of (sm.trans s3) hD, ?_⟩
    · rw [List.length_take]
      exact small1000 (by omega)
    · rw [upd_same, List.take_add_one, hyi]
      rfl
  · rintro H2 ⟨sm, h2⟩
    refine done H2 sm ?_
    rw [h2, ← hy, List.take_length]
end SG

/-! The rules that speak of the written part, with it as a letter: so they serve in a comprehension too. -/
namespace SG
open PySem PySem.Spec PyProof.Rows L2
section
variable {X : Cx} {K : PySem.W.Frag}
def rLenS (K : PySem.W.Frag) : List V → Hp → VK → Prop := fun xs H Q => ∃ p ys, xs = [.ref p] ∧ (SqL K H p ys ∨ SqT K H p ys) ∧ Q (.int ys.length) H
def rListOf (K : PySem.W.Frag) : List V → Hp → VK → Prop := fun xs H Q => ∃ p ys, xs = [.ref p] ∧ (SqL K H p ys ∨ SqT K H p ys) ∧ ∀ l, H l = none → Q (.ref l) (upd H l (.lst ys))
def rTupOf (K : PySem.W.Frag) : List V → Hp → VK → Prop := fun xs H Q => ∃ p ys, xs = [.ref p] ∧ ((SqL K H p ys ∧ ∀ l, H l = none → Q (.ref l) (upd H l (.tup ys))) ∨ (SqT K H p ys ∧ Q (.ref p) H))
theorem k_len (e : X.K = K := by rfl) : CallR X (.builtin "len") (rLenS K) := e ▸ call_len_seq
theorem k_listOf (e : X.K = K := by rfl) : CallR X (.type "list") (rListOf K) := e ▸ call_list_of
theorem k_tupOf (e : X.K = K := by rfl) : CallR X (.type "tuple") (rTupOf K) := e ▸ call_tuple_of
theorem k_sum (hc : X.calm = true) (e : X.K = K := by rfl) : CallR X (.builtin "sum") (rSum K) := e ▸ cr_sum hc
theorem k_all (hc : X.calm = true) (e : X.K = K := by rfl) : CallR X (.builtin "all") (rAll K) := e ▸ cr_all hc
theorem k_any (hc : X.calm = true) (e : X.K = K := by rfl) : CallR X (.builtin "any") (rAny K) := e ▸ cr_any hc
theorem k_isi (e : X.K = K := by rfl) : CallR X (.builtin "isinstance") (rIsi K) := e ▸ call_isi
theorem k_repr {k : Nat} (hn : X.base.NoDigits) (hg : X.A.guards = some []) (hr : Room k X.A) (e : X.K = K := by rfl) : CallR X (.builtin "repr") (rRepr K) := e ▸ call_reprG hn hg hr
theorem k_ixL (e : X.K = K := by rfl) : IxR X (rIxL K) := e ▸ ix_list
theorem k_ixT (e : X.K = K := by rfl) : IxR X (rIxT K) := e ▸ ix_tup
theorem k_ix (e : X.K = K := by rfl) : IxR X (rIx K) := e ▸ ix_seq
theorem k_slL (e : X.K = K := by rfl) : SlR X (rSlL K) := e ▸ sl_list
theorem k_slT (e : X.K = K := by rfl) : SlR X (rSlA K) := e ▸ sl_tupA
theorem k_catT (e : X.K = K := by rfl) : OpR X (binaryOp .Add) (rCatA K) := e ▸ op_catA
theorem k_eqD (hu : X.A.units + 64 < cLine) (e : X.K = K := by rfl) : OpR X (compareOp .Eq) (rEqD K) := e ▸ op_eqD hu
theorem k_neD (hu : X.A.units + 64 < cLine) (e : X.K = K := by rfl) : OpR X (compareOp .NotEq) (rNeD K) := e ▸ op_neD hu
theorem k_rev {x : Expr} {k} {p1 p2 p3 pos : Pos} {te : TE} (he : PE X x te) (e : X.K = K := by rfl) : PE X (.Subscript x (.Slice none none (some (.UnaryOp .USub (.Constant (.int 1) k p1) p2)) p3) pos) (tRevL K te) := e ▸ pe_revL he
theorem k_tg {es : List Expr} {k : Nat} {t : TGs} {n : Nat} {pos : Pos} (hc : X.calm = true) (h : PGs X es t) (hn : (assignEach es X.env).length = n := by rfl) (hst : (assignEach es X.env).findIdx? (·.1) = none := by rfl) (e : X.K = K := by rfl) : PG X (.Tuple es k pos) (gTup K n t) := e ▸ pg_tup hc h hn hst
theorem k_enumT {x : Expr} {ta : TA} {p pos tpos : Pos} {elts : List Expr} {kk : Nat} (hg : Gl X "enumerate") (hm : X.mg "enumerate" = none) (ha : PA X [x] ta) (hs : starEach [x] X.env = [(false, eval x X.env)] := by rfl) (e : X.K = K := by rfl) :
    PI X (.Tuple elts kk tpos) (.Call (.Name "enumerate" p) [x] [] pos) (iEnumT K ta) := e ▸ pi_enumT hg hm ha hs
theorem k_enum {x : Expr} {ta : TA} {p pos tpos : Pos} {elts : List Expr} {kk : Nat} (hg : Gl X "enumerate") (hm : X.mg "enumerate" = none) (ha : PA X [x] ta) (hs : starEach [x] X.env = [(false, eval x X.env)] := by rfl) (e : X.K = K := by rfl) :
    PI X (.Tuple elts kk tpos) (.Call (.Name "enumerate" p) [x] [] pos) (iEnum K ta) := e ▸ pi_enum hg hm ha hs
end
end SG

namespace SG
open PySem PySem.Spec PyProof.Rows L2
def topS (i : Nat) : Stmt := PySem.Challenge.pw_serialhouse_k41_whole_rows_rounds_and_me.main.body.getD i (.Pass ⟨0, 0, 0, 0⟩)
abbrev s_fraction : Stmt := topS 2
abbrev N_fraction : List Str := ["top", "bottom", "divisor"]
theorem sc_fraction : FnScope N_fraction ["top", "bottom"] (defScope s_fraction) := ⟨rfl, rfl, rfl, by decide +kernel, rfl, by decide +kernel, by decide +kernel⟩
abbrev s_draw : Stmt := topS 4
abbrev N_draw : List Str := ["many", "tosses", "places", "place", "used", "toss"]
theorem sc_draw : FnScope N_draw ["many", "tosses"] (defScope s_draw) := ⟨rfl, rfl, rfl, by decide +kernel, rfl, by decide +kernel, by decide +kernel⟩
abbrev s_onward_rests : Stmt := topS 5
abbrev N_onward_rests : List Str := ["rests", "total", "rest"]
theorem sc_onward_rests : FnScope N_onward_rests ["rests", "total"] (defScope s_onward_rests) := ⟨rfl, rfl, rfl, by decide +kernel, rfl, by decide +kernel, by decide +kernel⟩
abbrev s_power_left : Stmt := topS 6
abbrev N_power_left : List Str := ["depth", "many", "left", "figure"]
theorem sc_power_left : FnScope N_power_left ["depth", "many"] (defScope s_power_left) := ⟨rfl, rfl, rfl, by decide +kernel, rfl, by decide +kernel, by decide +kernel⟩
abbrev s_open_at : Stmt := topS 7
abbrev N_open_at : List Str := ["many", "depth"]
theorem sc_open_at : FnScope N_open_at ["many", "depth"] (defScope s_open_at) := ⟨rfl, rfl, rfl, by decide +kernel, rfl, by decide +kernel, by decide +kernel⟩
abbrev s_leaves_at : Stmt := topS 8
abbrev N_leaves_at : List Str := ["many", "depth"]
theorem sc_leaves_at : FnScope N_leaves_at ["many", "depth"] (defScope s_leaves_at) := ⟨rfl, rfl, rfl, by decide +kernel, rfl, by decide +kernel, by decide +kernel⟩
abbrev s_open_round : Stmt := topS 9
abbrev N_open_round : List Str := ["many", "first", "opens"]
theorem sc_open_round : FnScope N_open_round ["many"] (defScope s_open_round) := ⟨rfl, rfl, rfl, by decide +kernel, rfl, by decide +kernel, by decide +kernel⟩
abbrev s_round_from : Stmt := topS 10
abbrev N_round_from : List Str := ["start", "move_on", "met", "now"]
theorem sc_round_from : FnScope N_round_from ["start", "move_on"] (defScope s_round_from) := ⟨rfl, rfl, rfl, by decide +kernel, rfl, by decide +kernel, by decide +kernel⟩
abbrev s_rows_to : Stmt := topS 11
abbrev N_rows_to : List Str := ["many", "index", "most", "told", "places", "leaves", "depth"]
theorem sc_rows_to : FnScope N_rows_to ["many", "index", "most"] (defScope s_rows_to) := ⟨rfl, rfl, rfl, by decide +kernel, rfl, by decide +kernel, by decide +kernel⟩
abbrev s_row_to : Stmt := topS 12
abbrev N_row_to : List Str := ["leaves", "place", "signs", "less"]
theorem sc_row_to : FnScope N_row_to ["leaves", "place"] (defScope s_row_to) := ⟨rfl, rfl, rfl, by decide +kernel, rfl, by decide +kernel, by decide +kernel⟩
abbrev s_mean : Stmt := topS 13
abbrev N_mean : List Str := ["many", "first", "opens"]
theorem sc_mean : FnScope N_mean ["many"] (defScope s_mean) := ⟨rfl, rfl, rfl, by decide +kernel, rfl, by decide +kernel, by decide +kernel⟩
abbrev s_mean_by : Stmt := topS 14
abbrev N_mean_by : List Str := ["weights", "total", "first", "rests", "weight", "row"]
theorem sc_mean_by : FnScope N_mean_by ["weights"] (defScope s_mean_by) := ⟨rfl, rfl, rfl, by decide +kernel, rfl, by decide +kernel, by decide +kernel⟩
abbrev s_summed_by_halves : Stmt := topS 15
abbrev N_summed_by_halves : List Str := ["opens", "first", "around", "ahead", "top"]
theorem sc_summed_by_halves : FnScope N_summed_by_halves ["opens", "first"] (defScope s_summed_by_halves) := ⟨rfl, rfl, rfl, by decide +kernel, rfl, by decide +kernel, by decide +kernel⟩
abbrev s_weighed : Stmt := topS 16
abbrev N_weighed : List Str := ["opens", "total", "places"]
theorem sc_weighed : FnScope N_weighed ["opens"] (defScope s_weighed) := ⟨rfl, rfl, rfl, by decide +kernel, rfl, by decide +kernel, by decide +kernel⟩
abbrev s__law_deck : Stmt := topS 18
abbrev N__law_deck : List Str := ["_law_script", "_law_cells", "_law_mixed", "_law_cell"]
theorem sc__law_deck : FnScope N__law_deck ["_law_script"] (defScope s__law_deck) := ⟨rfl, rfl, rfl, by decide +kernel, rfl, by decide +kernel, by decide +kernel⟩
abbrev s__law_draw : Stmt := topS 19
abbrev N__law_draw : List Str := ["_law_deck_here", "_law_much", "_law_turn", "_law_made", "_law_cell"]
theorem sc__law_draw : FnScope N__law_draw ["_law_deck_here", "_law_much"] (defScope s__law_draw) := ⟨rfl, rfl, rfl, by decide +kernel, rfl, by decide +kernel, by decide +kernel⟩
abbrev s__law_pick : Stmt := topS 20
abbrev N__law_pick : List Str := ["_law_deck_here", "_law_some"]
theorem sc__law_pick : FnScope N__law_pick ["_law_deck_here", "_law_some"] (defScope s__law_pick) := ⟨rfl, rfl, rfl, by decide +kernel, rfl, by decide +kernel, by decide +kernel⟩
abbrev s__law_twos : Stmt := topS 21
abbrev N__law_twos : List Str := ["_law_much", "_law_found", "_law_k"]
theorem sc__law_twos : FnScope N__law_twos ["_law_much"] (defScope s__law_twos) := ⟨rfl, rfl, rfl, by decide +kernel, rfl, by decide +kernel, by decide +kernel⟩
abbrev s__law_ratio : Stmt := topS 22
abbrev N__law_ratio : List Str := ["_law_top", "_law_bottom", "_law_near", "_law_far", "_law_sign"]
theorem sc__law_ratio : FnScope N__law_ratio ["_law_top", "_law_bottom"] (defScope s__law_ratio) := ⟨rfl, rfl, rfl, by decide +kernel, rfl, by decide +kernel, by decide +kernel⟩
abbrev s__law_summed : Stmt := topS 23
abbrev N__law_summed : List Str := ["_law_opens", "_law_found", "_law_places"]
theorem sc__law_summed : FnScope N__law_summed ["_law_opens"] (defScope s__law_summed) := ⟨rfl, rfl, rfl, by decide +kernel, rfl, by decide +kernel, by decide +kernel⟩
abbrev s__law_mean_by : Stmt := topS 24
abbrev N__law_mean_by : List Str := ["_law_loads", "_law_whole", "_law_rests", "_law_met", "_law_opens", "_law_first", "_law_ahead", "_law_again", "_law_near", "_law_far", "_law_rest"]
theorem sc__law_mean_by : FnScope N__law_mean_by ["_law_loads"] (defScope s__law_mean_by) := ⟨rfl, rfl, rfl, by decide +kernel, rfl, by decide +kernel, by decide +kernel⟩
abbrev s__law_round : Stmt := topS 25
abbrev N__law_round : List Str := ["_law_much", "_law_met", "_law_rest"]
theorem sc__law_round : FnScope N__law_round ["_law_much"] (defScope s__law_round) := ⟨rfl, rfl, rfl, by decide +kernel, rfl, by decide +kernel, by decide +kernel⟩
abbrev s__law_rows_right : Stmt := topS 26
abbrev N__law_rows_right : List Str := ["_law_much", "_law_piece", "_law_limit", "_law_rows", "_law_depths", "_law_power", "_law_level", "_law_row"]
theorem sc__law_rows_right : FnScope N__law_rows_right ["_law_much", "_law_piece", "_law_limit"] (defScope s__law_rows_right) := ⟨rfl, rfl, rfl, by decide +kernel, rfl, by decide +kernel, by decide +kernel⟩
abbrev s__law_sums_right : Stmt := topS 27
abbrev N__law_sums_right : List Str := ["_law_much", "_law_limit", "_law_due", "_law_weighed", "_law_lengths", "_law_near", "_law_level"]
theorem sc__law_sums_right : FnScope N__law_sums_right ["_law_much", "_law_limit"] (defScope s__law_sums_right) := ⟨rfl, rfl, rfl, by decide +kernel, rfl, by decide +kernel, by decide +kernel⟩
abbrev s_law : Stmt := topS 28
abbrev N_law : List Str := ["_law_script", "_law_deck_here", "_law_turn", "_law_some", "_law_much", "_law_due", "_law_go", "_law_piece"]
theorem sc_law : FnScope N_law ["_law_script"] (defScope s_law) := ⟨rfl, rfl, rfl, by decide +kernel, rfl, by decide +kernel, by decide +kernel⟩
structure Txt (mg : Str → Option Value) : Prop where
  abs : mg "abs" = none
  enumerate : mg "enumerate" = none
  gcd : mg "gcd" = some (.builtin "math.gcd")
  int : mg "int" = none
  isinstance : mg "isinstance" = none
  len : mg "len" = none
  list : mg "list" = none
  range : mg "range" = none
  repr : mg "repr" = none
  str : mg "str" = none
  sum : mg "sum" = none
  tuple : mg "tuple" = none
section
variable {P : Program} {w : World} {K : PySem.W.Frag} {mg : Str → Option Value} {base : Heap}

def spDraw : Sp := fun vs H Q _ => ∃ (d l : Addr) (c : Nat) (k : Int), vs = [.ref d, .int k] ∧ Deck H d l c ∧ c < 1000000 ∧ 0 < k ∧ k < 1073741824 ∧
  ∀ (r : Int) (H2 : Hp), 0 ≤ r → r < k → Deck H2 d l (c + 1) → Kept d l H H2 → Q (.int r) H2
theorem ok_draw {f : Addr} {fd : FuncData} (F : Fun K "_law_draw" "_law_draw" s__law_draw f fd) (T : Txt mg) : GFn P w K mg base CX0 1 f fd ["_law_deck_here", "_law_much"] spDraw := by
  refine gfun_ok F sc__law_draw (fun vs H Q E h => ?_) (fun cdv A outer s H vs Q E hgu hr h => ?_)
  · obtain ⟨d, l, c, k, rfl, _⟩ := h
    rfl
  · obtain ⟨d, l, c, k, rfl, D, hc, k0, k1', q⟩ := h
    have nd := sc__law_draw.nd
    refine ⟨_, (pss_cons (ps_dput (hu_of hr) (pv 0) pe_str (pe_op op_add (pe_dget (hu_of hr) (pv 0) pe_str (fun _ _ => rfl)) pe_int) rfl)
      (pss_cons (ps_par (i := 2) (j := 3) rfl nd rfl rfl (by decide) rfl rfl (pa_cons (pe_dget (hu_of hr) (pv 0) pe_str (fun _ _ => rfl)) (pa_cons (pe_dget (hu_of hr) (pv 0) pe_str (fun _ _ => rfl)) pa_nil)) (by rfl))
      (C8.pss_cut (ps_if (pt_cmpR (k_neD (K := K) hr.units) (pe_dget (hu_of hr) (pv 0) pe_str (fun _ _ => rfl)) (pe_lst pa_nil) (nomark _)) (pss_cons (ps_set (i := 4) nd rfl (Or.inl rfl) (pe_bm0 PySem.F.plainAttrs_list PySem.F.slot_list_pop PySem.F.type_list_pop mt_pop (pe_dget (hu_of hr) (pv 0) pe_str (fun _ _ => rfl))))
      (pss_cons (ps_if (pt_cmpR op_ge (pv 4) (pe_op op_pow pe_int pe_int) (nomark _)) (pss_cons (ps_expr (pe_bm PySem.F.plainAttrs_list PySem.F.slot_list_append PySem.F.type_list_append mt_append (pe_dget (hu_of hr) (pv 0) pe_str (fun _ _ => rfl)) (pa_cons (pe_op op_fdiv (pv 4) (pv 1)) pa_nil)))
      (pss_one (ps_ret (pe_op op_mod (pe_callTy call_int1 (by rfl) T.int (by decide +kernel) (pa_cons (pv 4) pa_nil)) (pv 1))))) pss_nil)
      (pss_one (ps_set (i := 3) nd rfl (Or.inl rfl) (pe_op op_add (pv 3) (pe_op op_mod (pe_callTy call_int1 (by rfl) T.int (by decide +kernel) (pa_cons (pv 4) pa_nil)) pe_int)))))) pss_nil)
      (pss_cons (ps_set (i := 3) nd rfl (Or.inl rfl) (pe_op op_mod (pe_callTy call_int1 (by rfl) T.int (by decide +kernel) (pa_cons (pe_op op_add (pe_op op_add (pv 3) (pe_op op_mul (pe_op op_mul pe_int (pv 2)) (pv 2))) pe_int) pa_nil)) pe_int))
      (pss_cons (ps_set (i := 3) nd rfl (Or.inl rfl) (pe_op op_mod (pe_callTy call_int1 (by rfl) T.int (by decide +kernel) (pa_cons (pe_op op_mul (pv 3) pe_int) pa_nil)) pe_int))
      (pss_cons (ps_set (i := 3) nd rfl (Or.inl rfl) (pe_op op_mod (pe_callTy call_int1 (by rfl) T.int (by decide +kernel) (pa_cons (pe_op op_add (pe_op op_add (pe_op op_mul (pv 3) (pv 3)) (pe_op op_mul pe_int (pv 2))) pe_int) pa_nil)) pe_int))
      (pss_one (ps_ret (pe_op op_mod (pe_op op_fdiv (pe_op op_mod (pe_callTy call_int1 (by rfl) T.int (by decide +kernel) (pa_cons (pe_op op_mul (pv 3) pe_int) pa_nil)) pe_int) pe_int) (pv 1)))))))))), ?_⟩
    obtain ⟨cs, m, n, hd, hl, hm, hn, hcs⟩ := D
    have dl : d ≠ l := ne_of hd hl nofun
    -- the count goes on
    refine ⟨_, rfl, d, _, rfl, dgDraws hd, _, _, rfl, rfl, _, rfl, d, _, rfl, dpDraws (n + 1) hd, ?_⟩
    have hd1 : upd H d (.dK (deckO l m (n + 1))) d = some (.dK (deckO l m (n + 1))) := upd_same
    have hl1 : upd H d (.dK (deckO l m (n + 1))) l = some (.lst (cs.map V.int)) := by rw [upd_ne dl.symm]; exact hl
    have k1 : Kept d l H (upd H d (.dK (deckO l m (n + 1)))) := fun b o e h1 _ => by rw [upd_ne h1]; exact e
    generalize upd H d (.dK (deckO l m (n + 1))) = H1 at hd1 hl1 k1 ⊢
    refine ⟨_, rfl, d, _, rfl, dgDraws hd1, _, rfl, d, _, rfl, dgMixed hd1, _, _, rfl, ?_⟩
    -- the cell that is left, if there is one; behind it what stands
    refine ⟨fun σ' H' => ∃ (x : Int) (y4 : Option V), σ' = [some (.ref d), some (.int k), some (.int (n + 1)), some (.int x), y4] ∧ Kept d l H H' ∧ H' d = some (.dK (deckO l m (n + 1))) ∧ ∃ cs2 : List Int, H' l = some (.lst (cs2.map V.int)) ∧ cs2.length ≤ 63, ?_, ?_⟩
    · refine ⟨_, rfl, d, _, rfl, dgCells hd1, ?_⟩
      refine ⟨Nat.zero_le _, fun p np => ?_⟩
      have hd2 : upd H1 p (.lst []) d = some (.dK (deckO l m (n + 1))) := by rw [upd_ne (ne_of_none hd1 np)]; exact hd1
      have hl2 : upd H1 p (.lst []) l = some (.lst (cs.map V.int)) := by rw [upd_ne (ne_of_none hl1 np)]; exact hl1
      have k2 : Kept d l H (upd H1 p (.lst [])) := k1.trans (.of (same_new np))
      refine ⟨.list (dI cs), .list [], .lst (SqL.of hl2) (dpInts cs), .lst (SqL.of upd_same) .nil, shI cs, rfl, ?_⟩
      generalize upd H1 p (.lst []) = H2 at hd2 hl2 k2 ⊢
      refine ⟨!cs.isEmpty, by rw [eqvI_nil], ?_⟩
      rcases List.eq_nil_or_concat cs with rfl | ⟨c0, z, rfl⟩
      · exact iteF ⟨m, none, rfl, k2, hd2, [], hl2, by simp⟩
      · rw [List.concat_eq_append] at hl2 hcs ⊢
        refine ifT (by simp) ?_
        have hl3 : upd H2 l (.lst (c0.map V.int)) l = some (.lst (c0.map V.int)) := upd_same
        have hd3 : upd H2 l (.lst (c0.map V.int)) d = some (.dK (deckO l m (n + 1))) := by rw [upd_ne dl]; exact hd2
        have k3 : Kept d l H (upd H2 l (.lst (c0.map V.int))) := k2.trans fun b o e _ h2 => by rw [upd_ne h2]; exact e
        have el : ((c0 ++ [z]).map V.int).dropLast = c0.map V.int := by simp
        have ey : ((c0 ++ [z]).map V.int)[((c0 ++ [z]).map V.int).length - 1]? = some (.int z) := by simp
        -- the last cell is taken
        refine ⟨_, rfl, d, _, rfl, dgCells hd2, .inl ⟨rfl, _, SqL.of hl2⟩, l, _, _, rfl, rfl, hl2, ey, ?_⟩
        rw [el]
        generalize upd H2 l (.lst (c0.map V.int)) = H3 at hd3 hl3 k3 ⊢
        refine ⟨_, rfl, _, _, rfl, rfl, ⟨by decide, by decide, by decide⟩, _, _, rfl, rfl, _, rfl, ite2 (fun _ => ?_) (fun _ => ?_)⟩
        · refine ⟨_, rfl, d, _, rfl, dgCells hd3, .inl ⟨rfl, _, SqL.of hl3⟩, _, rfl, _, rfl, _, _, rfl, rfl, ⟨k0, k1'⟩, l, _, _, rfl, rfl, hl3, ?_, ?_⟩
          · rw [List.length_map]
            exact Nat.lt_of_lt_of_le (Nat.lt_succ_of_le (by simp at hcs; omega : c0.length ≤ 62)) (by decide)
          · have k4 : Kept d l H (upd H3 l (.lst (c0.map V.int ++ [.int (z / k)]))) := k3.trans fun b o e _ h2 => by rw [upd_ne h2]; exact e
            refine ⟨_, rfl, .inl ⟨_, rfl, _, rfl, _, _, rfl, rfl, k0, ?_⟩⟩
            refine q _ _ (mod_lo k0) (mod_hi k0) ⟨c0 ++ [z / k], m, n + 1, by rw [upd_ne dl]; exact hd3, by rw [upd_same, List.map_append]; rfl, hm, ⟨by omega, by omega⟩, ?_⟩ k4
            simp at hcs ⊢
            omega
        · refine ⟨_, rfl, _, rfl, .inl ⟨_, rfl, _, _, rfl, rfl, (by show (0 : Int) < _; decide), _, _, rfl, rfl, ?_⟩⟩
          exact ⟨m + z % 2147483629, some (.int z), rfl, k3, hd3, c0, hl3, by simp at hcs; omega⟩
    · rintro σ' H3 ⟨x, y4, rfl, k3, h3, cs2, h4, h5⟩
      have t1 : 0 < n + 1 := by omega
      have t2 : n + 1 ≤ 1000000 := by omega
      have t3 : n + 1 ≤ ((c + 1 : Nat) : Int) := by omega
      generalize n + 1 = t at t1 t2 t3 h3 ⊢
      refine ⟨_, rfl, _, rfl, _, _, rfl, rfl, .inl (by omega), _, rfl, _, _, rfl, rfl, .inl (by omega), _, _, rfl, rfl, _, _, rfl, rfl, .inl ⟨_, rfl, _, _, rfl, rfl, (by show (0 : Int) < _; decide), ?_⟩⟩
      have w0 := mod_lo (a := x + 60497 * t * t + 541) (b := 2147483629) (by decide)
      have w1 := mod_hi (a := x + 60497 * t * t + 541) (b := 2147483629) (by decide)
      generalize (x + 60497 * t * t + 541) % 2147483629 = g at w0 w1 ⊢
      refine ⟨_, rfl, _, _, rfl, rfl, .inl (by omega), .inl ⟨_, rfl, _, _, rfl, rfl, (by show (0 : Int) < _; decide), ?_⟩⟩
      have x0 := mod_lo (a := g * 40692) (b := 2147483647) (by decide)
      have x1 := mod_hi (a := g * 40692) (b := 2147483647) (by decide)
      generalize g * 40692 % 2147483647 = e at x0 x1 ⊢
      refine ⟨_, rfl, _, rfl, _, _, rfl, rfl, .inl (by omega), _, rfl, _, _, rfl, rfl, .inl (by omega), _, _, rfl, rfl, _, _, rfl, rfl, .inl ⟨_, rfl, _, _, rfl, rfl, (by show (0 : Int) < _; decide), ?_⟩⟩
      have y0 := mod_lo (a := e * e + 69621 * t + 548) (b := 2147483587) (by decide)
      have y1 := mod_hi (a := e * e + 69621 * t + 548) (b := 2147483587) (by decide)
      generalize (e * e + 69621 * t + 548) % 2147483587 = j at y0 y1 ⊢
      refine ⟨_, rfl, _, _, rfl, rfl, .inl (by omega), .inl ⟨_, rfl, _, _, rfl, rfl, (by show (0 : Int) < _; decide), _, _, rfl, rfl, ⟨by decide, by decide⟩, _, rfl, _, _, rfl, rfl, k0, ?_⟩⟩
      exact q _ _ (mod_lo k0) (mod_hi k0) ⟨cs2, m, t, h3, h4, hm, ⟨by omega, t3⟩, h5⟩ k3
end
end SG

namespace SG
open PySem PySem.Spec PyProof.Rows L2
section
variable {P : Program} {w : World} {K : PySem.W.Frag} {mg : Str → Option Value} {base : Heap}

def spDeck (K : PySem.W.Frag) : Sp := fun vs H Q _ => ∃ (a : Addr) (ns : List Int), vs = [.ref a] ∧ SqL K H a (ns.map V.int) ∧ ns.length ≤ 63 ∧
  ∀ (d l : Addr) (H2 : Hp), Deck H2 d l 0 → Same H H2 → Q (.ref d) H2
theorem ok_deck {f : Addr} {fd : FuncData} (F : Fun K "_law_deck" "_law_deck" s__law_deck f fd) (T : Txt mg) : GFn P w K mg base CX0 1 f fd ["_law_script"] (spDeck K) := by
  refine gfun_ok F sc__law_deck (fun vs H Q E h => ?_) (fun cdv A outer s H vs Q E hgu hr h => ?_)
  · obtain ⟨a, ns, rfl, _⟩ := h
    rfl
  · obtain ⟨a, ns, rfl, hS, hlen, q⟩ := h
    have nd := sc__law_deck.nd
    refine ⟨_, (pss_cons (ps_par (i := 1) (j := 2) rfl nd rfl rfl (by decide) rfl rfl (pa_cons (pe_callTy (k_listOf (K := K)) (by rfl) T.list (by decide +kernel) (pa_cons (pe_slice (k_slL (K := K)) (pv 0) po_none (po_some pe_int)) pa_nil)) (pa_cons pe_int pa_nil)) (by rfl))
      (pss_cons (ps_for PassesOwn.never rfl (pi_list (pv 1)) (pg_name (i := 3) nd rfl (Or.inl rfl))
        (pss_one (ps_set (i := 2) nd rfl (Or.inl rfl) (pe_op op_mod (pe_callTy call_int1 (by rfl) T.int (by decide +kernel) (pa_cons (pe_op op_add (pe_op op_add (pe_op op_mul (pv 2) pe_int) (pe_op op_mod (pe_callTy call_int1 (by rfl) T.int (by decide +kernel) (pa_cons (pv 3) pa_nil)) pe_int)) pe_int) pa_nil)) pe_int))))
      (pss_one (ps_ret (pe_disp (pps_cons pe_str (k_rev (K := K) (pv 1)) (pps_cons pe_str (pv 2) (pps_cons pe_str pe_int pps_nil))) (by rfl) (by rfl) (fun z => by cases z) (by decide)))))), ?_⟩
    -- the script's copy
    refine ⟨.ref a, rfl, 63, rfl, a, _, rfl, hS, fun p np => ?_⟩
    have s1 : Same H (upd H p (.lst (cutV (ns.map V.int) none (some 63)))) := same_new np
    have e1 : cutV (ns.map V.int) none (some 63) = ns.map V.int := by
      unfold cutV
      rw [HT.sIx_none, show HT.sIx (ns.map V.int).length (ns.map V.int).length (some 63) = min 63 (ns.map V.int).length from HT.sIx_nat _ _ 63]
      rw [show min 63 (ns.map V.int).length = (ns.map V.int).length by rw [List.length_map]; omega]
      exact List.take_of_length_le (Nat.le_refl _)
    rw [e1] at s1 ⊢
    refine ⟨p, _, rfl, .inl (SqL.of upd_same), fun l nl => ?_⟩
    have s2 : Same H (upd (upd H p (.lst (ns.map V.int))) l (.lst (ns.map V.int))) := s1.trans (same_new nl)
    have hl : (upd (upd H p (.lst (ns.map V.int))) l (.lst (ns.map V.int))) l = some (.lst (ns.map V.int)) := upd_same
    generalize (upd (upd H p (.lst (ns.map V.int))) l (.lst (ns.map V.int))) = H1 at s2 hl ⊢
    refine ⟨_, _, rfl, ?_⟩
    -- the figure
    refine ⟨_, rfl, l, rfl, ⟨_, SqL.of hl⟩, for_list (K := K) (a := l) (xs := ns.map V.int) (fun i σ H2 => ∃ (m : Int) (y : Option V), σ = [some (.ref a), some (.ref l), some (.int m), y] ∧ (0 ≤ m ∧ m < 2147483648) ∧ H2 = H1)
      ⟨1086541, none, rfl, ⟨by decide, by decide⟩, rfl⟩ (fun i σ H2 _ ⟨_, _, _, _, e⟩ => e ▸ SqL.of hl) ?_ ?_⟩
    · rintro i y σ H2 hi ⟨m, y3, rfl, hm, rfl⟩
      obtain ⟨z, rfl⟩ : ∃ z, y = V.int z := by
        rw [List.getElem?_map] at hi
        obtain ⟨z, _, e⟩ := Option.map_eq_some_iff.mp hi
        exact ⟨z, e.symm⟩
      have u0 := mod_lo (a := z) (b := 2147483629) (by decide)
      have u1 := mod_hi (a := z) (b := 2147483629) (by decide)
      refine ⟨_, rfl, _, _, rfl, rfl, .inl (by omega), _, rfl, .inl ⟨_, rfl, _, _, rfl, rfl, (by show (0 : Int) < _; decide), _, _, rfl, rfl, _, _, rfl, rfl, .inl ⟨_, rfl, _, _, rfl, rfl, (by show (0 : Int) < _; decide), ?_⟩⟩⟩
      exact ⟨_, _, rfl, ⟨mod_lo (by decide), Int.lt_trans (mod_hi (by decide)) (by decide)⟩, rfl⟩
    · rintro σ H2 ⟨m, y3, rfl, hm, rfl⟩
      -- the deck
      refine fun d nd1 => ?_
      have t2 : Same H (upd H2 d (.dK [])) := s2.trans (same_new nd1)
      have hl3 : (upd H2 d (.dK [])) l = some (.lst (ns.map V.int)) := by rw [upd_ne (ne_of_none hl nd1)]; exact hl
      have hd3 : (upd H2 d (.dK [])) d = some (.dK []) := upd_same
      generalize upd H2 d (.dK []) = H3 at t2 hl3 hd3 ⊢
      refine ⟨.ref l, rfl, l, _, rfl, SqL.of hl3, fun r nr => ?_⟩
      have t4 : Same H (upd H3 r (.lst (ns.map V.int).reverse)) := t2.trans (same_new nr)
      have hd4 : (upd H3 r (.lst (ns.map V.int).reverse)) d = some (.dK []) := by rw [upd_ne (ne_of_none hd3 nr)]; exact hd3
      have hr4 : (upd H3 r (.lst (ns.map V.int).reverse)) r = some (.lst (ns.reverse.map V.int)) := by rw [upd_same, List.map_reverse]
      have nd0 : H d = none := s2.free nd1
      have nr0 : r ≠ d := (ne_of_none hd3 nr).symm
      generalize upd H3 r (.lst (ns.map V.int).reverse) = H4 at t4 hd4 hr4 ⊢
      refine ⟨_, rfl, hd4, deckO r m 0, rfl, (by show 3 ≤ 15; decide), ?_⟩
      rw [deck_made]
      refine q d r _ ⟨ns.reverse, m, 0, upd_same, by rw [upd_ne nr0]; exact hr4, hm, ⟨by decide, by decide⟩, by rw [List.length_reverse]; exact hlen⟩ fun b o e => ?_
      rw [upd_ne (ne_of_none e nd0)]
      exact t4 _ _ e

/-- one of a list's, a sign of a text -/
def spPick (K : PySem.W.Frag) : Sp := fun vs H Q _ => ∃ (d l : Addr) (c : Nat), Deck H d l c ∧ c < 1000000 ∧
  ((∃ (a : Addr) (xs : List V), vs = [.ref d, .ref a] ∧ SqL K H a xs ∧ a ≠ l ∧ xs ≠ [] ∧ xs.length ≤ 1000 ∧ ∀ (x : V) (H2 : Hp), x ∈ xs → Deck H2 d l (c + 1) → Kept d l H H2 → Q x H2) ∨
   (∃ z : Str, vs = [.ref d, .str z] ∧ 0 < z.length ∧ z.length ≤ 1000 ∧ ∀ (g : Nat) (H2 : Hp), g ∈ z.cps.toList → Deck H2 d l (c + 1) → Kept d l H H2 → Q (.str ⟨#[g]⟩) H2))
theorem ok_pick {f f1 : Addr} {fd fd1 : FuncData} (F : Fun K "_law_pick" "_law_pick" s__law_pick f fd) (F__law_draw : Fun K "_law_draw" "_law_draw" s__law_draw f1 fd1) (m__law_draw : mg "_law_draw" = some (.ref f1)) (b__law_draw : Binds K fd1 ["_law_deck_here", "_law_much"] []) (T : Txt mg) : GFn P w K mg base CX0 2 f fd ["_law_deck_here", "_law_some"] (spPick K) := by
  have G__law_draw : GFn P w K mg base CX0 1 f1 fd1 ["_law_deck_here", "_law_much"] spDraw := ok_draw F__law_draw T
  refine gfun_ok F sc__law_pick (fun vs H Q E h => ?_) (fun cdv A outer s H vs Q E hgu hr h => ?_)
  · obtain ⟨d, l, c, D, hc, ⟨a, xs, rfl, _⟩ | ⟨z, rfl, _⟩⟩ := h
    · rfl
    · rfl
  · obtain ⟨d, l, c, D, hc, h⟩ := h
    have nd := sc__law_pick.nd
    refine ⟨_, (pss_one (ps_ret (pe_ix (k_ix (K := K)) (pv 1) (pe_g G__law_draw hgu (hr.mono (by decide)) (by rfl) m__law_draw F__law_draw.kp b__law_draw .nil pass0 (pa_cons (pv 0) (pa_cons (pe_callB call_len (by rfl) T.len (by decide +kernel) (pa_cons (pv 1) pa_nil)) pa_nil))) (fun _ _ => rfl)))), ?_⟩
    rcases h with ⟨a, xs, rfl, hS, al, ne, hlen, q⟩ | ⟨z, rfl, z0, z1, q⟩
    · have pos : 0 < xs.length := List.length_pos_iff.mpr ne
      refine ⟨_, rfl, _, rfl, _, rfl, _, _, rfl, .inl ⟨xs, hS, rfl⟩, d, l, c, _, rfl, D, hc, by omega, by omega, fun r H2 r0 r1 D2 k2 => ?_⟩
      have hS2 := k2.lst D al hS
      obtain ⟨i, rfl⟩ : ∃ i : Nat, r = (i : Int) := ⟨r.toNat, by omega⟩
      have hi : i < xs.length := by omega
      exact .inl ⟨a, xs, i, xs[i], rfl, rfl, hS2, atI_nat (List.getElem?_eq_getElem hi), q _ _ (List.getElem_mem hi) D2 k2⟩
    · have ez : z.cps.toList.length = z.length := by simp [Str.length]
      have sz : z.length ≤ sizeLine := Nat.le_of_lt (small1000 z1)
      refine ⟨_, rfl, _, rfl, _, rfl, _, _, rfl, ⟨sz, rfl⟩, d, l, c, _, rfl, D, hc, by omega, by omega, fun r H2 r0 r1 D2 k2 => ?_⟩
      obtain ⟨i, rfl⟩ : ∃ i : Nat, r = (i : Int) := ⟨r.toNat, by omega⟩
      have hi : i < z.cps.toList.length := by omega
      exact .inr (.inr ⟨z, i, z.cps.toList[i], rfl, rfl, sz, atI_nat (List.getElem?_eq_getElem hi), q _ _ (List.getElem_mem hi) D2 k2⟩)
end
end SG

/-! Data at any depth, and the empty dict: its kind, lengths, items. -/
namespace SG
open PySem PySem.Spec PyProof.Rows L2
/-- data, or the empty dict -/
def Dq (K : PySem.W.Frag) (H : Hp) (x : V) (d : PyData) : Prop := Dp K H x d ∨ (d = .dict [] ∧ ∃ a, x = .ref a ∧ H a = some (.dK []))
def kindOf : PyData → String
  | .none => "NoneType"
  | .bool _ => "bool"
  | .int _ => "int"
  | .str _ => "str"
  | .list _ => "list"
  | .tuple _ => "tuple"
  | .dict _ => "dict"
section
variable {K : PySem.W.Frag} {H H2 : Hp} {x : V} {d : PyData}
theorem dp_ty (h : Dp K H x d) : TyX K H x (.type (kindOf d)) := by
  cases h with
  | non => exact .base .non
  | bl b => exact .base (.bl b)
  | int i => exact .base (.int i)
  | str s => exact .base (.str s)
  | lst s _ =>
    rcases s with (s | ⟨o, s⟩) | ⟨o, vs, n, s, c, _⟩
    · exact .base (.lst s)
    · exact .base (.frz s)
    · exact .kList s c
  | tup s _ =>
    rcases s with (s | ⟨o, s⟩) | ⟨o, vs, n, s, c, _⟩
    · exact .base (.tup s)
    · exact .fTuple s
    · exact .kTuple s c
theorem dq_ty (h : Dq K H x d) : TyX K H x (.type (kindOf d)) := by
  rcases h with h | ⟨rfl, a, rfl, h⟩
  · exact dp_ty h
  · exact .base (.dK h)
mutual
theorem dp_same (s : Same H H2) : ∀ {x : V} {d : PyData}, Dp K H x d → Dp K H2 x d
  | _, _, .non => .non
  | _, _, .bl b => .bl b
  | _, _, .int i => .int i
  | _, _, .str t => .str t
  | _, _, .lst q a => .lst (s.seq q) (dpA_same s a)
  | _, _, .tup q a => .tup (sameT s q) (dpA_same s a)
theorem dpA_same (s : Same H H2) : ∀ {xs : List V} {ds : List PyData}, DpAll K H xs ds → DpAll K H2 xs ds
  | _, _, .nil => .nil
  | _, _, .cons a b => .cons (dp_same s a) (dpA_same s b)
end
theorem dq_same (s : Same H H2) (h : Dq K H x d) : Dq K H2 x d := by
  rcases h with h | ⟨e, a, e2, h⟩
  · exact .inl (dp_same s h)
  · exact .inr ⟨e, a, e2, s _ _ h⟩
theorem dpA_len : ∀ {xs : List V} {ds : List PyData}, DpAll K H xs ds → xs.length = ds.length
  | _, _, .nil => rfl
  | _, _, .cons _ b => congrArg (· + 1) (dpA_len b)
theorem dpA_get : ∀ {xs : List V} {ds : List PyData} {i : Nat} {x : V}, DpAll K H xs ds → xs[i]? = some x → ∃ d, ds[i]? = some d ∧ Dp K H x d
  | _, _, _, _, .nil, e => by simp at e
  | _, _, 0, _, .cons a b, e => by
    simp at e
    subst e
    exact ⟨_, rfl, a⟩
  | _, _, i + 1, x, .cons a b, e => by
    obtain ⟨d, h1, h2⟩ := dpA_get (i := i) (x := x) b (by simpa using e)
    exact ⟨d, by simpa using h1, h2⟩
theorem dpA_app : ∀ {xs ys : List V} {ds es : List PyData}, DpAll K H xs ds → DpAll K H ys es → DpAll K H (xs ++ ys) (ds ++ es)
  | _, _, _, _, .nil, h => h
  | _, _, _, _, .cons a b, h => .cons a (dpA_app b h)
/-- what is no tuple has no tuple's kind -/
theorem dq_tuple {ds : List PyData} (h : Dq K H x (.tuple ds)) : ∃ a xs, x = .ref a ∧ SqT K H a xs ∧ DpAll K H xs ds := by
  rcases h with h | ⟨e, _⟩
  · cases h with
    | tup q a => exact ⟨_, _, rfl, q, a⟩
  · cases e
def isTup : PyData → Bool
  | .tuple _ => true
  | _ => false
def isInt : PyData → Bool
  | .int _ => true
  | _ => false
theorem isi_tuple (h : Dq K H x d) : PySem.W.kitOne K (.type (kindOf d)) (.type "tuple") = some (isTup d) := by
  cases d with
  | none => exact kit_ty (show kitB "NoneType" "tuple" = some false by decide +kernel)
  | bool _ => exact kit_ty (show kitB "bool" "tuple" = some false by decide +kernel)
  | int _ => exact kit_ty (show kitB "int" "tuple" = some false by decide +kernel)
  | str _ => exact kit_ty (show kitB "str" "tuple" = some false by decide +kernel)
  | list _ => exact kit_ty (show kitB "list" "tuple" = some false by decide +kernel)
  | tuple _ => exact kit_ty (show kitB "tuple" "tuple" = some true by decide +kernel)
  | dict _ => exact kit_ty (show kitB "dict" "tuple" = some false by decide +kernel)
def isIntLike : PyData → Bool
  | .int _ => true
  | .bool _ => true
  | _ => false
def isBool : PyData → Bool
  | .bool _ => true
  | _ => false
theorem isi_int (h : Dq K H x d) : PySem.W.kitOne K (.type (kindOf d)) (.type "int") = some (isIntLike d) := by
  cases d with
  | none => exact kit_ty (show kitB "NoneType" "int" = some false by decide +kernel)
  | bool _ => exact kit_ty (show kitB "bool" "int" = some true by decide +kernel)
  | int _ => exact kit_ty (show kitB "int" "int" = some true by decide +kernel)
  | str _ => exact kit_ty (show kitB "str" "int" = some false by decide +kernel)
  | list _ => exact kit_ty (show kitB "list" "int" = some false by decide +kernel)
  | tuple _ => exact kit_ty (show kitB "tuple" "int" = some false by decide +kernel)
  | dict _ => exact kit_ty (show kitB "dict" "int" = some false by decide +kernel)
theorem isi_bool (h : Dq K H x d) : PySem.W.kitOne K (.type (kindOf d)) (.type "bool") = some (isBool d) := by
  cases d with
  | none => exact kit_ty (show kitB "NoneType" "bool" = some false by decide +kernel)
  | bool _ => exact kit_ty (show kitB "bool" "bool" = some true by decide +kernel)
  | int _ => exact kit_ty (show kitB "int" "bool" = some false by decide +kernel)
  | str _ => exact kit_ty (show kitB "str" "bool" = some false by decide +kernel)
  | list _ => exact kit_ty (show kitB "list" "bool" = some false by decide +kernel)
  | tuple _ => exact kit_ty (show kitB "tuple" "bool" = some false by decide +kernel)
  | dict _ => exact kit_ty (show kitB "dict" "bool" = some false by decide +kernel)
end
/-! ### two tuples put together, a slice of a tuple: whatever object it is -/
theorem cat3 {K : PySem.W.Frag} {C : V → Hp → Prop} {H : Hp} {a b : Addr} {xs ys : List V} (hA : SqT K H a xs) (hB : SqT K H b ys) (h : ∀ (x : Addr) (H3 : Hp), Same H H3 → SqT K H3 x (xs ++ ys) → C (.ref x) H3) :
    (xs = [] → C (.ref b) H) ∧ (xs ≠ [] → ys = [] → C (.ref a) H) ∧ (xs ≠ [] → ys ≠ [] → ∀ p, H p = none → C (.ref p) (upd H p (.tup (xs ++ ys)))) := by
  refine ⟨fun e => ?_, fun _ e => ?_, fun _ _ p np => h p _ (same_new np) (.inl (.inl upd_same))⟩
  · subst e
    exact h b H (Same.refl H) hB
  · subst e
    refine h a H (Same.refl H) ?_
    rw [List.append_nil]
    exact hA
def rCatU (K : PySem.W.Frag) : R2 := fun x y H Q => ∃ a b xs ys, x = .ref a ∧ y = .ref b ∧ SqT K H a xs ∧ SqT K H b ys ∧ xs.length + ys.length ≤ sizeLine ∧ ∀ (z : Addr) (H3 : Hp), Same H H3 → SqT K H3 z (xs ++ ys) → Q (.ref z) H3
theorem k_catU {X : Cx} {K : PySem.W.Frag} (e : X.K = K := by rfl) : OpR X (binaryOp .Add) (rCatU K) := by
  subst e
  intro pins s σ H x y v u Q I rx ry h
  obtain ⟨a, b, xs, ys, rfl, rfl, hA, hB, hl, q⟩ := h
  exact op_catA pins s σ H _ _ v u Q I rx ry ⟨a, b, xs, ys, rfl, rfl, hA, hB, hl, cat3 hA hB q⟩
def rSlU (K : PySem.W.Frag) : V → Option Int → Option Int → Hp → VK → Prop := fun x lo hi H Q => ∃ a xs, x = .ref a ∧ SqT K H a xs ∧ ∀ (z : Addr) (H3 : Hp), Same H H3 → SqT K H3 z (cutV xs lo hi) → Q (.ref z) H3
theorem k_slU {X : Cx} {K : PySem.W.Frag} (e : X.K = K := by rfl) : SlR X (rSlU K) := by
  subst e
  intro pins s σ H x v vl vu lo hi sl Q I rx hs pl pu h
  obtain ⟨a, xs, rfl, hA, q⟩ := h
  refine sl_tupA pins s σ H _ v vl vu lo hi sl Q I rx hs pl pu ⟨a, xs, rfl, hA, fun z => q a H (Same.refl H) ?_, fun _ p np => q p _ (same_new np) (.inl (.inl upd_same))⟩
  unfold cutV
  rw [z.1, z.2, Nat.sub_zero, List.drop_zero, List.take_length]
  exact hA
def isRuleD : PyData → Bool
  | .tuple [.tuple xs, .tuple ys] => xs.length == ys.length && (xs ++ ys).all isInt
  | _ => false
end SG

/-! Data that can be told and compared. -/
namespace SG
open PySem PySem.Spec PyProof.Rows L2
structure OkD (d : PyData) : Prop where
  lay : d.canLay0 = true
  dep : d.depth ≤ 50
  tell : tellable d = true
  short : d.leavesShort 4302 = true
  bulk : d.bulk ≤ 3000
structure OkA (ds : List PyData) : Prop where
  lay : PyData.canLayAll0 ds = true
  dep : PyData.depthAll ds ≤ 49
  tell : tellableAll ds = true
  short : PyData.leavesShortAll 4302 ds = true
theorem OkD.shown {d : PyData} (h : OkD d) : d.shown.length ≤ sizeLine := by
  have z := PyData.shown_le_bulk 4302 (by decide) d h.short
  have z2 : (4302 + 2) * d.bulk ≤ 4304 * 3000 := Nat.mul_le_mul (Nat.le_refl _) h.bulk
  rw [sizeLine_eq]
  omega
theorem OkA.tuple {ds : List PyData} (h : OkA ds) (b : PyData.bulkAll ds ≤ 3000) : OkD (.tuple ds) :=
  ⟨by simpa only [PyData.canLay0] using h.lay, by simp only [PyData.depth]; have := h.dep; omega, by simpa only [tellable] using h.tell, by simpa only [PyData.leavesShort] using h.short, by simpa only [PyData.bulk] using b⟩
theorem OkA.list {ds : List PyData} (h : OkA ds) (b : PyData.bulkAll ds ≤ 3000) : OkD (.list ds) :=
  ⟨by simpa only [PyData.canLay0] using h.lay, by simp only [PyData.depth]; have := h.dep; omega, by simpa only [tellable] using h.tell, by simpa only [PyData.leavesShort] using h.short, by simpa only [PyData.bulk] using b⟩
theorem OkA.nil : OkA [] := ⟨by simp [PyData.canLayAll0], by simp [PyData.depthAll], by simp [tellableAll], by simp [PyData.leavesShortAll]⟩
theorem OkA.cons {d : PyData} {ds : List PyData} (h : OkD d) (hd : d.depth ≤ 49) (t : OkA ds) : OkA (d :: ds) :=
  ⟨by simp only [PyData.canLayAll0, h.lay, t.lay, Bool.and_self], by simp only [PyData.depthAll]; have := t.dep; omega, by simp only [tellableAll, h.tell, t.tell, Bool.and_self], by simp only [PyData.leavesShortAll, h.short, t.short, Bool.and_self]⟩
theorem OkD.int {i : Int} (h : i.natAbs < 10 ^ 4300) : OkD (.int i) := by
  refine ⟨by simp only [PyData.canLay0], by simp only [PyData.depth]; omega, ?_, ?_, by simp only [PyData.bulk]; omega⟩
  · simp only [tellable]
    exact decide_eq_true h
  · have e := int_text_length_le10 (k := 4300) (by decide) h
    simp only [PyData.leavesShort]
    refine decide_eq_true ?_
    show (Str.ofString (toString i)).length ≤ 4302
    rw [PySem.ofString_length]
    omega
theorem okA_ints : ∀ {ns : List Int}, (∀ n ∈ ns, n.natAbs < 10 ^ 4300) → OkA (dI ns)
  | [], _ => .nil
  | n :: ns, h => .cons (.int (h n List.mem_cons_self)) (by simp only [PyData.depth]; omega) (okA_ints fun m hm => h m (List.mem_cons_of_mem _ hm))
theorem bulk_ints : ∀ ns : List Int, PyData.bulkAll (dI ns) = ns.length
  | [] => by simp [dI, PyData.bulkAll]
  | n :: ns => by
    have ih := bulk_ints ns
    show PyData.bulkAll (PyData.int n :: dI ns) = ns.length + 1
    simp only [PyData.bulkAll, PyData.bulk, ih]
    omega
end SG
namespace SG
open PySem PySem.Spec PyProof.Rows L2
theorem canLay_mem : ∀ {ds : List PyData} {d : PyData}, PyData.canLayAll0 ds = true → d ∈ ds → d.canLay0 = true
  | x :: xs, d, h, m => by
    have h2 : x.canLay0 = true ∧ PyData.canLayAll0 xs = true := by simpa only [PyData.canLayAll0, Bool.and_eq_true] using h
    rcases List.mem_cons.mp m with e | m
    · rw [e]; exact h2.1
    · exact canLay_mem h2.2 m
theorem canLay_sub : ∀ {es ds : List PyData}, PyData.canLayAll0 ds = true → (∀ e ∈ es, e ∈ ds) → PyData.canLayAll0 es = true
  | [], _, _, _ => by simp only [PyData.canLayAll0]
  | e :: es, ds, h, s => by
    simp only [PyData.canLayAll0, canLay_mem h (s e List.mem_cons_self), canLay_sub (es := es) h fun x m => s x (List.mem_cons_of_mem _ m), Bool.and_self]
theorem depth_mem : ∀ {ds : List PyData} {d : PyData}, d ∈ ds → d.depth ≤ PyData.depthAll ds
  | x :: xs, d, m => by
    simp only [PyData.depthAll]
    rcases List.mem_cons.mp m with e | m
    · rw [e]; exact Nat.le_max_left _ _
    · exact Nat.le_trans (depth_mem m) (Nat.le_max_right _ _)
theorem depth_sub : ∀ {es ds : List PyData}, (∀ e ∈ es, e ∈ ds) → PyData.depthAll es ≤ PyData.depthAll ds
  | [], _, _ => by simp only [PyData.depthAll]; omega
  | e :: es, ds, s => by
    simp only [PyData.depthAll]
    exact Nat.max_le.mpr ⟨depth_mem (s e List.mem_cons_self), depth_sub fun x m => s x (List.mem_cons_of_mem _ m)⟩
theorem shaped_sub {es ds : List PyData} (h1 : PyData.canLayAll0 ds = true) (h2 : PyData.depthAll ds ≤ 60) (s : ∀ e ∈ es, e ∈ ds) : SeqAt.shaped (.list es) = true := by
  have a := canLay_sub h1 s
  have b := depth_sub s
  simp only [SeqAt.shaped, PyData.canLay0, PyData.depth, a, Bool.true_and]
  exact decide_eq_true (by omega)
theorem eqv_nil : ∀ ds : List PyData, PyData.eqv (.list ds) (.list []) = ds.isEmpty
  | [] => by simp [PyData.eqv, PyData.eqvAll]
  | d :: ds => by simp [PyData.eqv, PyData.eqvAll]
/-- a comprehension over a tuple of data that keeps those that p takes -/
theorem lc_tupF {K : PySem.W.Frag} {a D : Addr} {xs : List V} {ds : List PyData} {tt : TT} {s : Nat} {σ : L2.St} {H1 : Hp} {Qd : Hp → Prop} (p : PyData → Bool) (hn : xs.length ≤ 1000) (hD : H1 D = none) (hS : SqT K H1 a xs) (hX : DpAll K H1 xs ds) (hs : s < σ.length)
    (turn : ∀ (x : V) (d : PyData) (H2 : Hp), d ∈ ds → Dp K H2 x d → ∀ R : Bool → Hp → Prop, R (p d) H2 → tt ((wipe σ [s]).set s (some x)) H2 R)
    (done : ∀ (ys : List V) (H2 : Hp), Same H1 H2 → H2 D = some (.lst ys) → DpAll K H1 ys (ds.filter p) → Qd H2) :
    ∃ W : Nat → Nat → Hp → Prop, (∃ m, W 0 m (upd H1 D (.lst []))) ∧ ∀ i m H, W i m H →
      ((Itt K a).stop i H ∧ Qd H) ∨ ((Itt K a).go i H ∧ ∃ Nx : Hp → Prop, (∀ H2, Nx H2 → ∃ m2, m2 < m ∧ W (i + 1) m2 H2) ∧ ∀ x H2, (Itt K a).yld i H x H2 → gName s x (wipe σ [s]) H2 fun σ2 H3 => wipe σ2 [s] = wipe σ [s] ∧ tt σ2 H3 fun b H4 =>
        if b = true then tVar s σ2 H4 fun y H5 => ∃ acc, H5 D = some (.lst acc) ∧ acc.length < sizeLine ∧ Nx (upd H5 D (.lst (acc ++ [y]))) else Nx H4) := by
  refine lc_tup (xs := xs) (fun i H2 => Same H1 H2 ∧ ∃ ys, H2 D = some (.lst ys) ∧ DpAll K H1 ys ((ds.take i).filter p) ∧ ys.length ≤ i) ⟨same_new hD, [], upd_same, by simpa using DpAll.nil, Nat.le_refl _⟩ (fun i H2 _ q => sameT q.1 hS) ?_ ?_
  · rintro i x H2 hx ⟨sm, ys, h2, hY, hl⟩
    obtain ⟨d, h1, h3⟩ := dpA_get hX hx
    have hi : i < xs.length := (List.getElem?_eq_some_iff.mp hx).1
    have e1 : (ds.take (i + 1)).filter p = (ds.take i).filter p ++ (if p d = true then [d] else []) := by
      rw [List.take_add_one, h1]
      show ((ds.take i) ++ [d]).filter p = _
      rw [List.filter_append]
      congr 1
      by_cases e : p d = true <;> simp [e]
    refine ⟨wipe1 _ _ _, ?_⟩
    refine turn x d H2 (List.mem_of_getElem? h1) (dp_same sm h3) _ ?_
    by_cases e : p d = true
    · refine ifT e ⟨x, ?_, ys, h2, small1000 (by omega), same_upd_of sm hD, ys ++ [x], upd_same, ?_, by rw [List.length_append]; simpa using hl⟩
      · rw [List.getElem?_set_self (by rw [wipe_length]; exact hs)]
      · rw [e1, if_pos e]
        exact dpA_app hY (.cons h3 .nil)
    · refine ifF (by simpa using e) ⟨sm, ys, h2, ?_, by omega⟩
      rw [e1, if_neg e, List.append_nil]
      exact hY
  · rintro H2 ⟨sm, ys, h2, hY, hl⟩
    refine done ys H2 sm h2 ?_
    rw [dpA_len hX, List.take_length] at hY
    exact hY
end SG

/-! Calls by keywords alone. -/
namespace SG
open PySem PySem.Spec PyProof.Rows L2
def kwOne {α : Type} : List α → List α → List α
  | [], [a] => [a]
  | _, _ => []
/-- two keywords, in the other order -/
def kwTurn {α : Type} : List α → List α → List α
  | [], [b, a] => [a, b]
  | _, _ => []
theorem kwOne_rel {vs : List V} {us : List Value} {zs : List V} {ws : List Value} (a : Vals vs us) (b : Vals zs ws) : Vals (kwOne vs zs) (kwOne us ws) := by
  cases a with
  | nil =>
    cases b with
    | nil => exact .nil
    | cons r t =>
      cases t with
      | nil => exact .cons r .nil
      | cons _ _ => exact .nil
  | cons _ _ => exact .nil
theorem kwTurn_rel {vs : List V} {us : List Value} {zs : List V} {ws : List Value} (a : Vals vs us) (b : Vals zs ws) : Vals (kwTurn vs zs) (kwTurn us ws) := by
  cases a with
  | nil =>
    cases b with
    | nil => exact .nil
    | cons r t =>
      cases t with
      | nil => exact .nil
      | cons r2 t2 =>
        cases t2 with
        | nil => exact .cons r2 (.cons r .nil)
        | cons _ _ => exact .nil
  | cons _ _ => exact .nil
theorem kb_of {K : PySem.W.Frag} {x qn : Str} {st : Stmt} {f : Addr} {fd : FuncData} {ps ks : List Str} {g : List Value → List Value → List Value} {gV : List V → List V → List V} (F : Fun K x qn st f fd)
    (h : ∀ (kV doc pm : Value) (an : Option Addr) (cdv ct : Value) (us ws : List Value), (g us ws).length = ps.length → bindArgs (PySem.W.fnOf x qn (defArgs st) (defBody st) (defScope st) .none kV doc pm an cdv ct) ⟨us, ks.zip ws⟩ = pure (ps.zip (g us ws)))
    (rel : ∀ {vs : List V} {us : List Value} {zs : List V} {ws : List Value}, Vals vs us → Vals zs ws → Vals (gV vs zs) (g us ws)) : KBinds K fd ps ks g gV := by
  obtain ⟨oc, od, kV, doc, pm, an, cdv, ct, osl, rfl, lk, hcd⟩ := F.ex
  exact ⟨fun s us ws _ hl => .of_eq (h kV doc pm an cdv ct us ws hl), rel⟩
end SG

/-! Data that stays while the deck is drawn from; small data. -/
namespace SG
open PySem PySem.Spec PyProof.Rows L2
section
variable {K : PySem.W.Frag} {d l : Addr} {c : Nat} {H H2 : Hp}
def St (K : PySem.W.Frag) (d l : Addr) (H : Hp) (x : V) (D : PyData) : Prop := ∀ H2, Kept d l H H2 → Dp K H2 x D
def StA (K : PySem.W.Frag) (d l : Addr) (H : Hp) (xs : List V) (ds : List PyData) : Prop := ∀ H2, Kept d l H H2 → DpAll K H2 xs ds
theorem St.at {x : V} {D : PyData} (h : St K d l H x D) : Dp K H x D := h H (Kept.refl _ _ _)
theorem St.mono {x : V} {D : PyData} (h : St K d l H x D) (k : Kept d l H H2) : St K d l H2 x D := fun H3 k3 => h H3 (k.trans k3)
theorem StA.mono {xs : List V} {ds : List PyData} (h : StA K d l H xs ds) (k : Kept d l H H2) : StA K d l H2 xs ds := fun H3 k3 => h H3 (k.trans k3)
theorem St.int (i : Int) : St K d l H (.int i) (.int i) := fun _ _ => .int i
theorem St.bl (b : Bool) : St K d l H (.bl b) (.bool b) := fun _ _ => .bl b
theorem St.str (t : Str) : St K d l H (.str t) (.str t) := fun _ _ => .str t
theorem St.non : St K d l H .non .none := fun _ _ => .non
theorem St.tup {a : Addr} {xs : List V} {ds : List PyData} (D : Deck H d l c) (h : SqT K H a xs) (t : StA K d l H xs ds) : St K d l H (.ref a) (.tuple ds) := fun H3 k => .tup (k.tup D h) (t H3 k)
theorem St.lst {a : Addr} {xs : List V} {ds : List PyData} (h : H a = some (.lst xs)) (n1 : a ≠ d) (n2 : a ≠ l) (t : StA K d l H xs ds) : St K d l H (.ref a) (.list ds) := fun H3 k => .lst (SqL.of (k _ _ h n1 n2)) (t H3 k)
theorem StA.nil : StA K d l H [] [] := fun _ _ => .nil
theorem StA.cons {x : V} {xs : List V} {D : PyData} {ds : List PyData} (a : St K d l H x D) (b : StA K d l H xs ds) : StA K d l H (x :: xs) (D :: ds) := fun H3 k => .cons (a H3 k) (b H3 k)
theorem StA.app {xs ys : List V} {ds es : List PyData} (a : StA K d l H xs ds) (b : StA K d l H ys es) : StA K d l H (xs ++ ys) (ds ++ es) := fun H3 k => dpA_app (a H3 k) (b H3 k)
theorem StA.ints (ns : List Int) : StA K d l H (ns.map V.int) (dI ns) := fun _ _ => dpInts ns
end
/-! ### small data -/
structure Sm (n b : Nat) (D : PyData) : Prop where
  lay : D.canLay0 = true
  dep : D.depth ≤ n
  tell : tellable D = true
  short : D.leavesShort 4302 = true
  bulk : D.bulk ≤ b
structure SmA (n b : Nat) (ds : List PyData) : Prop where
  lay : PyData.canLayAll0 ds = true
  dep : PyData.depthAll ds ≤ n
  tell : tellableAll ds = true
  short : PyData.leavesShortAll 4302 ds = true
  bulk : PyData.bulkAll ds ≤ b
theorem Sm.ok {n b : Nat} {D : PyData} (h : Sm n b D) (hn : n ≤ 50) (hb : b ≤ 3000) : OkD D := ⟨h.lay, Nat.le_trans h.dep hn, h.tell, h.short, Nat.le_trans h.bulk hb⟩
theorem Sm.mono {n b m e : Nat} {D : PyData} (h : Sm n b D) (hn : n ≤ m) (hb : b ≤ e) : Sm m e D := ⟨h.lay, Nat.le_trans h.dep hn, h.tell, h.short, Nat.le_trans h.bulk hb⟩
theorem SmA.mono {n b m e : Nat} {ds : List PyData} (h : SmA n b ds) (hn : n ≤ m) (hb : b ≤ e) : SmA m e ds := ⟨h.lay, Nat.le_trans h.dep hn, h.tell, h.short, Nat.le_trans h.bulk hb⟩
theorem SmA.tuple {n b : Nat} {ds : List PyData} (h : SmA n b ds) : Sm (n + 1) b (.tuple ds) :=
  ⟨by simpa only [PyData.canLay0] using h.lay, by simp only [PyData.depth]; have := h.dep; omega, by simpa only [tellable] using h.tell, by simpa only [PyData.leavesShort] using h.short, by simpa only [PyData.bulk] using h.bulk⟩
theorem SmA.list {n b : Nat} {ds : List PyData} (h : SmA n b ds) : Sm (n + 1) b (.list ds) :=
  ⟨by simpa only [PyData.canLay0] using h.lay, by simp only [PyData.depth]; have := h.dep; omega, by simpa only [tellable] using h.tell, by simpa only [PyData.leavesShort] using h.short, by simpa only [PyData.bulk] using h.bulk⟩
theorem SmA.nil (n : Nat) : SmA n 0 [] := ⟨by simp [PyData.canLayAll0], by simp [PyData.depthAll], by simp [tellableAll], by simp [PyData.leavesShortAll], by simp [PyData.bulkAll]⟩
theorem SmA.cons {n b e : Nat} {D : PyData} {ds : List PyData} (h : Sm n b D) (t : SmA n e ds) : SmA n (b + 1 + e) (D :: ds) :=
  ⟨by simp only [PyData.canLayAll0, h.lay, t.lay, Bool.and_self], by simp only [PyData.depthAll]; exact Nat.max_le.mpr ⟨h.dep, t.dep⟩, by simp only [tellableAll, h.tell, t.tell, Bool.and_self], by simp only [PyData.leavesShortAll, h.short, t.short, Bool.and_self],
    by simp only [PyData.bulkAll]; have := h.bulk; have := t.bulk; omega⟩
theorem SmA.app {n e : Nat} {es : List PyData} (t : SmA n e es) : ∀ {ds : List PyData} {b : Nat}, SmA n b ds → SmA n (b + e) (ds ++ es)
  | [], b, h => t.mono (Nat.le_refl _) (by omega)
  | D :: ds, b, h => by
    have l1 : D.canLay0 = true ∧ PyData.canLayAll0 ds = true := by simpa only [PyData.canLayAll0, Bool.and_eq_true] using h.lay
    have l2 : tellable D = true ∧ tellableAll ds = true := by simpa only [tellableAll, Bool.and_eq_true] using h.tell
    have l3 : D.leavesShort 4302 = true ∧ PyData.leavesShortAll 4302 ds = true := by simpa only [PyData.leavesShortAll, Bool.and_eq_true] using h.short
    have l4 : D.depth ≤ n ∧ PyData.depthAll ds ≤ n := by have := h.dep; simp only [PyData.depthAll] at this; exact Nat.max_le.mp this
    have l5 : D.bulk + 1 + PyData.bulkAll ds ≤ b := by have := h.bulk; simpa only [PyData.bulkAll] using this
    have z := SmA.app t (ds := ds) (b := PyData.bulkAll ds) ⟨l1.2, l4.2, l2.2, l3.2, Nat.le_refl _⟩
    exact (SmA.cons ⟨l1.1, l4.1, l2.1, l3.1, Nat.le_refl _⟩ z).mono (Nat.le_refl _) (by omega)
theorem Sm.int {i : Int} (h : i.natAbs < 10 ^ 4300) : Sm 0 0 (.int i) := by
  have z := OkD.int h
  exact ⟨z.lay, by simp [PyData.depth], z.tell, z.short, by simp [PyData.bulk]⟩
theorem SmA.ints : ∀ {ns : List Int}, (∀ n ∈ ns, n.natAbs < 10 ^ 4300) → SmA 0 ns.length (dI ns)
  | [], _ => .nil 0
  | n :: ns, h => (SmA.cons (Sm.int (h n List.mem_cons_self)) (SmA.ints fun m hm => h m (List.mem_cons_of_mem _ hm))).mono (Nat.le_refl _) (by simp; omega)
end SG

/-! Texts: joined signs; lists of values that are drawn. -/
namespace SG
open PySem PySem.Spec PyProof.Rows L2 TL
open SX (S S_tl S_len)
def rJoin (K : PySem.W.Frag) : V → List V → Hp → VK → Prop := fun x xs H Q => ∃ a p, ∃ ys : List Str, x = .str a ∧ xs = [.ref p] ∧ (SqL K H p (ys.map V.str) ∨ SqT K H p (ys.map V.str)) ∧ (ys.map (·.length)).sum + ys.length * a.length ≤ 16777216 ∧ Q (.str (Txt.join a ys)) H
theorem k_join {X : Cx} {K : PySem.W.Frag} {o e : Expr} {to te : TE} {apos pos : Pos} (ho : PE X o to) (he : PE X e te) (eK : X.K = K := by rfl) (hs : starEach [e] X.env = [(false, eval e X.env)] := by rfl) (hbase : attributeBase o "join" X.env (eval o X.env) = eval o X.env := by rfl) (hline : (apos.endLine == pos.line) = true := by rfl) :
    PE X (.Call (.Attribute o "join" apos) [e] [] pos) (tM1 (rJoin K) to te) := eK ▸ pe_join ho he hs hbase hline
/-- single signs, joined -/
theorem join_signs : ∀ gs : List Nat, Txt.join "" (gs.map fun g => (⟨#[g]⟩ : Str)) = S gs := by
  intro gs
  rw [join_eq]
  have z := tl_join "" (gs.map fun g => (⟨#[g]⟩ : Str))
  have e : ∀ ls : List Nat, joinL (tl ("" : Str)) (ls.map fun g => [g]) = ls := by
    intro ls
    induction ls with
    | nil => rfl
    | cons a r ih =>
      cases r with
      | nil => rfl
      | cons b r2 =>
        show [a] ++ (tl ("" : Str) ++ joinL (tl ("" : Str)) ((b :: r2).map fun g => [g])) = _
        rw [ih]
        rfl
  rw [List.map_map] at z
  have z2 := z.trans (e gs)
  exact (S_tl _).symm.trans (congrArg S z2)
/-- a list of values that are drawn, turn by turn -/
theorem lc_drawsV {d l D : Addr} {c n s : Nat} {te : TE} {σ : L2.St} {H1 : Hp} {Qd : Hp → Prop} {B : V → Prop} (D0 : Deck H1 d l c) (hD : H1 D = none) (hn : n ≤ 1000)
    (turn : ∀ (i : Nat) (H2 : Hp), i < n → Deck H2 d l (c + i) → Kept d l H1 H2 → ∀ R : VK, (∀ (x : V) (H3 : Hp), B x → Deck H3 d l (c + i + 1) → Kept d l H2 H3 → R x H3) → te ((wipe σ [s]).set s (some (.int (0 + i)))) H2 R)
    (done : ∀ (xs : List V) (H2 : Hp), xs.length = n → (∀ x ∈ xs, B x) → H2 D = some (.lst xs) → Deck H2 d l (c + n) → Kept d l H1 H2 → Qd H2) :
    ∃ W : Nat → Nat → Hp → Prop, (∃ m, W 0 m (upd H1 D (.lst []))) ∧ ∀ i m H, W i m H →
      ((Itr 0 n).stop i H ∧ Qd H) ∨ ((Itr 0 n).go i H ∧ ∃ Nx : Hp → Prop, (∀ H2, Nx H2 → ∃ m2, m2 < m ∧ W (i + 1) m2 H2) ∧ ∀ x H2, (Itr 0 n).yld i H x H2 → gName s x (wipe σ [s]) H2 fun σ2 H3 => wipe σ2 [s] = wipe σ [s] ∧ tYes σ2 H3 fun b H4 =>
        if b = true then te σ2 H4 fun y H5 => ∃ acc, H5 D = some (.lst acc) ∧ acc.length < sizeLine ∧ Nx (upd H5 D (.lst (acc ++ [y]))) else Nx H4) := by
  obtain ⟨nd, nl⟩ := D0.ne hD
  refine lc_range (fun i H2 => ∃ xs : List V, xs.length = i ∧ (∀ x ∈ xs, B x) ∧ H2 D = some (.lst xs) ∧ Deck H2 d l (c + i) ∧ Kept d l H1 H2) ?_ ?_ ?_
  · exact ⟨[], rfl, (fun _ h => absurd h List.not_mem_nil), upd_same, D0.upd hD, .of (same_new hD)⟩
  · rintro i H2 hi ⟨xs, hx, hB, hD2, D2, k2⟩
    refine ⟨wipe1 _ _ _, ?_⟩
    refine yesI ?_
    refine turn i H2 hi D2 k2 _ fun x H3 hb D3 k3 => ⟨xs, k3 _ _ hD2 nd nl, ?_, xs ++ [x], by simp [hx], fun y hy => ?_, upd_same, ?_, ?_⟩
    · rw [hx]
      exact small1000 (by omega)
    · rcases List.mem_append.mp hy with h | h
      · exact hB y h
      · rw [List.mem_singleton.mp h]; exact hb
    · obtain ⟨cs, m, k, h1, h2, h3⟩ := D3
      exact ⟨cs, m, k, by rw [upd_ne nd.symm]; exact h1, by rw [upd_ne nl.symm]; exact h2, h3⟩
    · intro b o e h1 h2
      rw [upd_ne (ne_of_none e hD)]
      exact k3 _ _ (k2 _ _ e h1 h2) h1 h2
  · rintro H2 ⟨xs, hx, hB, hD2, D2, k2⟩
    exact done xs H2 hx hB hD2 D2 k2
/-- values that are single signs -/
theorem signs_of : ∀ {xs : List V} {p : Nat → Prop}, (∀ x ∈ xs, ∃ g, p g ∧ x = .str ⟨#[g]⟩) → ∃ gs : List Nat, xs = (gs.map fun g => (⟨#[g]⟩ : Str)).map V.str ∧ ∀ g ∈ gs, p g
  | [], _, _ => ⟨[], rfl, fun _ h => nomatch h⟩
  | x :: xs, p, h => by
    obtain ⟨g, hg, rfl⟩ := h x List.mem_cons_self
    obtain ⟨gs, rfl, hs⟩ := signs_of (xs := xs) (p := p) fun y hy => h y (List.mem_cons_of_mem _ hy)
    refine ⟨g :: gs, rfl, fun y hy => ?_⟩
    rcases List.mem_cons.mp hy with rfl | hy
    · exact hg
    · exact hs y hy
theorem sum_ones : ∀ gs : List Nat, ((gs.map fun g => (⟨#[g]⟩ : Str)).map (·.length)).sum = gs.length
  | [] => rfl
  | g :: gs => by
    have ih := sum_ones gs
    simp only [List.map_cons, List.sum_cons, List.length_cons, ih]
    show 1 + gs.length = _
    omega
end SG

/-! Fractions: plain mathematics. -/
namespace SG
def sgn (b : Int) : Int := if b > 0 then 1 else -1
def ratN (a b : Int) : Int := sgn b * a / (Int.gcd a b : Nat)
def ratD (a b : Int) : Int := sgn b * b / (Int.gcd a b : Nat)
/-- a fraction in its least form -/
def Red (a b : Int) : Prop := 0 < b ∧ Int.gcd a b = 1
theorem gcd_pos {a b : Int} (hb : b ≠ 0) : 0 < Int.gcd a b := Int.gcd_pos_iff.mpr (.inr hb)
theorem gcd_step (n f : Nat) : Nat.gcd f (n % f) = Nat.gcd n f := by
  rw [Nat.gcd_comm n f, Nat.gcd_rec f n, Nat.gcd_comm]
theorem sgn_dvd {a b c : Int} (h : c ∣ a) : c ∣ sgn b * a := Int.dvd_trans h (Int.dvd_mul_left _ _)
theorem ratN_mul (a b : Int) : ratN a b * (Int.gcd a b : Nat) = sgn b * a := Int.ediv_mul_cancel (sgn_dvd (Int.gcd_dvd_left ..))
theorem ratD_mul (a b : Int) : ratD a b * (Int.gcd a b : Nat) = sgn b * b := Int.ediv_mul_cancel (sgn_dvd (Int.gcd_dvd_right ..))
theorem sgn_pos {b : Int} (hb : b ≠ 0) : 0 < sgn b * b := by
  unfold sgn
  split <;> omega
theorem sgn_sq (b : Int) : sgn b * sgn b = 1 := by
  unfold sgn
  split <;> rfl
theorem ratD_pos {a b : Int} (hb : b ≠ 0) : 0 < ratD a b := by
  have g := gcd_pos (a := a) hb
  have h := ratD_mul a b
  have p := sgn_pos hb
  rw [← h] at p
  exact Int.pos_of_mul_pos_left p (by omega)
theorem rat_red {a b : Int} (hb : b ≠ 0) : Red (ratN a b) (ratD a b) := by
  refine ⟨ratD_pos hb, ?_⟩
  have g := gcd_pos (a := a) hb
  have e : Int.gcd (sgn b * a) (sgn b * b) = (sgn b).natAbs * Int.gcd a b := Int.gcd_mul_left ..
  have s1 : (sgn b).natAbs = 1 := by
    unfold sgn
    split <;> rfl
  rw [← ratN_mul a b, ← ratD_mul a b, Int.gcd_mul_right, s1, Int.natAbs_natCast, Nat.one_mul] at e
  exact Nat.eq_of_mul_eq_mul_right g (by rw [e, Nat.one_mul])
theorem dvd_of_cop {x y z : Int} (h : Int.gcd x y = 1) (d : y ∣ x * z) : y ∣ z := by
  have d2 : y.natAbs ∣ x.natAbs * z.natAbs := by
    rw [← Int.natAbs_mul]
    exact Int.natAbs_dvd_natAbs.mpr d
  have c : Nat.Coprime y.natAbs x.natAbs := by
    have : Nat.gcd x.natAbs y.natAbs = 1 := h
    exact (Nat.gcd_comm _ _).trans this
  exact Int.natAbs_dvd_natAbs.mp (c.dvd_of_dvd_mul_left d2)
theorem red_eq {n d x y : Int} (h1 : Red n d) (h2 : Red x y) (e : n * y = x * d) : n = x ∧ d = y := by
  have d1 : y ∣ d := dvd_of_cop h2.2 (by rw [← e]; exact Int.dvd_mul_left _ _)
  have d2 : d ∣ y := dvd_of_cop h1.2 (by rw [e]; exact Int.dvd_mul_left _ _)
  have p1 := h1.1
  have p2 := h2.1
  have l1 := Int.le_of_dvd p1 d1
  have l2 := Int.le_of_dvd p2 d2
  have ed : d = y := by omega
  subst ed
  exact ⟨Int.eq_of_mul_eq_mul_right (by omega) e, rfl⟩
theorem rat_cross (a b : Int) (hb : b ≠ 0) : ratN a b * b = a * ratD a b := by
  have g := gcd_pos (a := a) hb
  have e1 := ratN_mul a b
  have e2 := ratD_mul a b
  refine Int.eq_of_mul_eq_mul_right (a := (Int.gcd a b : Nat)) (by omega) ?_
  calc ratN a b * b * (Int.gcd a b : Nat) = ratN a b * (Int.gcd a b : Nat) * b := by rw [Int.mul_assoc, Int.mul_comm b, ← Int.mul_assoc]
    _ = sgn b * a * b := by rw [e1]
    _ = a * (sgn b * b) := by rw [Int.mul_comm (sgn b) a, Int.mul_assoc]
    _ = a * (ratD a b * (Int.gcd a b : Nat)) := by rw [e2]
    _ = a * ratD a b * (Int.gcd a b : Nat) := by rw [Int.mul_assoc]
/-- a fraction is told by its cross products -/
theorem rat_is {a b x y : Int} (hb : b ≠ 0) (h : Red x y) (e : a * y = x * b) : ratN a b = x ∧ ratD a b = y := by
  refine red_eq (rat_red hb) h ?_
  have c := rat_cross a b hb
  refine Int.eq_of_mul_eq_mul_right (a := b) hb ?_
  calc ratN a b * y * b = ratN a b * b * y := by rw [Int.mul_assoc, Int.mul_comm y, ← Int.mul_assoc]
    _ = a * ratD a b * y := by rw [c]
    _ = a * y * ratD a b := by rw [Int.mul_assoc, Int.mul_comm (ratD a b), ← Int.mul_assoc]
    _ = x * b * ratD a b := by rw [e]
    _ = x * ratD a b * b := by rw [Int.mul_assoc, Int.mul_comm b, ← Int.mul_assoc]
theorem ratN_neg {a b : Int} (hb : 0 < b) : ratN a b < 0 ↔ a < 0 := by
  have c := rat_cross a b (by omega)
  have d := ratD_pos (a := a) (b := b) (by omega)
  constructor
  · intro h
    have z : a * ratD a b < 0 := by rw [← c]; exact Int.mul_neg_of_neg_of_pos h hb
    exact Int.lt_of_not_ge fun h2 => by
      have := Int.mul_nonneg h2 (Int.le_of_lt d)
      omega
  · intro h
    have z : ratN a b * b < 0 := by rw [c]; exact Int.mul_neg_of_neg_of_pos h d
    exact Int.lt_of_not_ge fun h2 => by
      have := Int.mul_nonneg h2 (Int.le_of_lt hb)
      omega
theorem ratN_pos {a b : Int} (hb : 0 < b) : 0 < ratN a b ↔ 0 < a := by
  have c := rat_cross a b (by omega)
  have d := ratD_pos (a := a) (b := b) (by omega)
  constructor
  · intro h
    have z : 0 < a * ratD a b := by rw [← c]; exact Int.mul_pos h hb
    exact Int.pos_of_mul_pos_left z d
  · intro h
    have z : 0 < ratN a b * b := by rw [c]; exact Int.mul_pos h d
    exact Int.pos_of_mul_pos_left z hb
theorem abs_sgn (b a : Int) : (sgn b * a).natAbs = a.natAbs := by
  rw [Int.natAbs_mul]
  have s1 : (sgn b).natAbs = 1 := by
    unfold sgn
    split <;> rfl
  rw [s1, Nat.one_mul]
theorem ratN_abs {a b : Int} (hb : b ≠ 0) : (ratN a b).natAbs ≤ a.natAbs := by
  have g := gcd_pos (a := a) hb
  have e := congrArg Int.natAbs (ratN_mul a b)
  rw [abs_sgn, Int.natAbs_mul, Int.natAbs_natCast] at e
  rw [← e]
  exact Nat.le_mul_of_pos_right _ g
theorem ratD_abs {a b : Int} (hb : b ≠ 0) : (ratD a b).natAbs ≤ b.natAbs := by
  have g := gcd_pos (a := a) hb
  have e := congrArg Int.natAbs (ratD_mul a b)
  rw [abs_sgn, Int.natAbs_mul, Int.natAbs_natCast] at e
  rw [← e]
  exact Nat.le_mul_of_pos_right _ g
theorem back_minus {x y u v : Int} (hx : Red x y) (hu : Red u v) : ratN (ratN (x * v + u * y) (y * v) * v - u * ratD (x * v + u * y) (y * v)) (ratD (x * v + u * y) (y * v) * v) = x ∧ ratD (ratN (x * v + u * y) (y * v) * v - u * ratD (x * v + u * y) (y * v)) (ratD (x * v + u * y) (y * v) * v) = y := by
  have hb : y * v ≠ 0 := Int.ne_of_gt (Int.mul_pos hx.1 hu.1)
  have c := rat_cross (x * v + u * y) (y * v) hb
  have d := ratD_pos (a := x * v + u * y) hb
  generalize ratN (x * v + u * y) (y * v) = n at c ⊢
  generalize ratD (x * v + u * y) (y * v) = m at c d ⊢
  refine rat_is (Int.ne_of_gt (Int.mul_pos d hu.1)) hx ?_
  grind
theorem back_plus {x y u v : Int} (hx : Red x y) (hu : Red u v) : ratN (ratN (x * v - u * y) (y * v) * v + u * ratD (x * v - u * y) (y * v)) (ratD (x * v - u * y) (y * v) * v) = x ∧ ratD (ratN (x * v - u * y) (y * v) * v + u * ratD (x * v - u * y) (y * v)) (ratD (x * v - u * y) (y * v) * v) = y := by
  have hb : y * v ≠ 0 := Int.ne_of_gt (Int.mul_pos hx.1 hu.1)
  have c := rat_cross (x * v - u * y) (y * v) hb
  have d := ratD_pos (a := x * v - u * y) hb
  generalize ratN (x * v - u * y) (y * v) = n at c ⊢
  generalize ratD (x * v - u * y) (y * v) = m at c d ⊢
  refine rat_is (Int.ne_of_gt (Int.mul_pos d hu.1)) hx ?_
  grind
theorem back_over {x y u v : Int} (hx : Red x y) (hu : Red u v) (h0 : u ≠ 0) : ratN (ratN (x * u) (y * v) * v) (ratD (x * u) (y * v) * u) = x ∧ ratD (ratN (x * u) (y * v) * v) (ratD (x * u) (y * v) * u) = y := by
  have hb : y * v ≠ 0 := Int.ne_of_gt (Int.mul_pos hx.1 hu.1)
  have c := rat_cross (x * u) (y * v) hb
  have d := ratD_pos (a := x * u) hb
  generalize ratN (x * u) (y * v) = n at c ⊢
  generalize ratD (x * u) (y * v) = m at c d ⊢
  refine rat_is (Int.mul_ne_zero (Int.ne_of_gt d) h0) hx ?_
  grind
end SG

namespace SG
open PySem PySem.Spec PyProof.Rows L2 TL
open SX (S S_tl S_len)
section
variable {P : Program} {w : World} {K : PySem.W.Frag} {mg : Str → Option Value} {base : Heap}
def spTwos : Sp := fun vs H Q _ => ∃ n : Nat, vs = [.int n] ∧ n ≤ 1000 ∧ Q (.int (2 ^ n)) H
theorem ok_twos {f : Addr} {fd : FuncData} (F : Fun K "_law_twos" "_law_twos" s__law_twos f fd) (T : Txt mg) : GFn P w K mg base CX0 1 f fd ["_law_much"] spTwos := by
  refine gfun_ok F sc__law_twos (fun vs H Q E h => ?_) (fun cdv A outer s H vs Q E hgu hr h => ?_)
  · obtain ⟨n, rfl, _⟩ := h
    rfl
  · obtain ⟨n, rfl, hn, q⟩ := h
    have nd := sc__law_twos.nd
    refine ⟨_, (pss_cons (ps_set (i := 1) nd rfl (Or.inl rfl) pe_int)
      (pss_cons (ps_for PassesOwn.never rfl (pi_range1 rfl T.range (pa_cons (pv 0) pa_nil)) (pg_name (i := 2) nd rfl (Or.inl rfl))
        (pss_one (ps_set (i := 1) nd rfl (Or.inl rfl) (pe_op op_mul pe_int (pv 1)))))
      (pss_one (ps_ret (pv 1))))), ?_⟩
    refine ⟨_, rfl, n, rfl, by omega, by omega, for_range (lo := 0) (n := (n : Int).toNat) (fun i σ HI => ∃ y, σ = [some (.int n), some (.int (2 ^ i)), y] ∧ HI = H) ⟨none, rfl, rfl⟩ ?_ ?_⟩
    · rintro i σ HI hi ⟨y, rfl, rfl⟩
      refine ⟨_, rfl, _, _, rfl, rfl, .inl ⟨by decide, by decide⟩, some (.int (0 + i)), ?_, rfl⟩
      show [some (V.int n), some (V.int (2 * 2 ^ i)), some (V.int (0 + i))] = _
      rw [Int.pow_succ, Int.mul_comm 2]
    · rintro σ HI ⟨y, rfl, rfl⟩
      exact ⟨_, rfl, q⟩
theorem abs_nat (a : Int) : (if a < 0 then -a else a) = (a.natAbs : Int) := by
  split <;> omega
theorem sign_tell {σ : L2.St} {H : Hp} {Q : VK} {i : Nat} {b : Int} (e : σ[i]? = some (some (.int b))) (q : Q (.int (sgn b)) H) : tIf (tTest (tOp (rI0 fun i j => V.bl (decide (j < i))) (tVar i) (tC (V.int 0)))) (tC (V.int 1)) (tUn (rU fun i => V.int (-i)) (tC (V.int 1))) σ H Q := by
  refine ⟨_, e, _, _, rfl, rfl, _, rfl, ite2 (fun h => ?_) (fun h => ?_)⟩
  · have h := of_decide_eq_true h
    unfold sgn at q
    rw [if_pos h] at q
    exact q
  · have h : ¬ (0 < b) := fun z => h (decide_eq_true z)
    unfold sgn at q
    rw [if_neg h] at q
    exact ⟨1, rfl, q⟩
theorem sgn_small (b x : Int) : CMul (sgn b) x := by
  refine .inl ?_
  unfold sgn
  split <;> decide
def Fits (a : Int) : Prop := a.natAbs < 2 ^ 2000
def spRatio (K : PySem.W.Frag) : Sp := fun vs H Q _ => ∃ (a b : Int), vs = [.int a, .int b] ∧ b ≠ 0 ∧ Fits a ∧ Fits b ∧
  ∀ (p : Addr) (H2 : Hp), Same H H2 → SqT K H2 p [.int (ratN a b), .int (ratD a b)] → Q (.ref p) H2
theorem ok_ratio {f : Addr} {fd : FuncData} (F : Fun K "_law_ratio" "_law_ratio" s__law_ratio f fd) (T : Txt mg) : GFn P w K mg base CX0 1 f fd ["_law_top", "_law_bottom"] (spRatio K) := by
  refine gfun_ok F sc__law_ratio (fun vs H Q E h => ?_) (fun cdv A outer s H vs Q E hgu hr h => ?_)
  · obtain ⟨a, b, rfl, _⟩ := h
    rfl
  · obtain ⟨a, b, rfl, hb, fa, fb, q⟩ := h
    have nd := sc__law_ratio.nd
    refine ⟨_, (pss_cons (ps_par (i := 2) (j := 3) rfl nd rfl rfl (by decide) rfl rfl (pa_cons (pe_callB call_abs (by rfl) T.abs (by decide +kernel) (pa_cons (pv 0) pa_nil)) (pa_cons (pe_callB call_abs (by rfl) T.abs (by decide +kernel) (pa_cons (pv 1) pa_nil)) pa_nil)) (by rfl))
      (pss_cons (ps_while PassesOwn.never (pt_cmpR op_gt (pv 3) pe_int (nomark _)) (pss_one (ps_par (i := 2) (j := 3) rfl nd rfl rfl (by decide) rfl rfl (pa_cons (pv 3) (pa_cons (pe_op op_mod (pv 2) (pv 3)) pa_nil)) (by rfl))))
      (pss_cons (ps_set (i := 4) nd rfl (Or.inl rfl) (pe_ifExp (pt_cmpR op_gt (pv 1) pe_int (nomark _)) pe_int (pe_un un_neg pe_int)))
      (pss_one (ps_ret (pe_tup (pa_cons (pe_op op_fdivW (pe_op op_mul (pv 4) (pv 0)) (pv 2)) (pa_cons (pe_op op_fdivW (pe_op op_mul (pv 4) (pv 1)) (pv 2)) pa_nil)))))))), ?_⟩
    refine ⟨_, rfl, _, rfl, _, rfl, _, rfl, _, _, rfl, ?_⟩
    rw [abs_nat, abs_nat]
    refine ⟨fun k σ HI => ∃ (n f : Nat), σ = [some (.int a), some (.int b), some (.int n), some (.int f), none] ∧ k = f ∧ HI = H ∧ Nat.gcd n f = Int.gcd a b ∧ n < 2 ^ 2000 ∧ f < 2 ^ 2000, ⟨_, _, _, rfl, rfl, rfl, rfl, fa, fb⟩, ?_⟩
    rintro k σ HI ⟨n, f, rfl, rfl, rfl, hg, hn, hf⟩
    refine ⟨_, rfl, _, _, rfl, rfl, _, rfl, ite2 (fun h0 => ?_) (fun h0 => ?_)⟩
    · have f0 : 0 < k := by
        have : (0 : Int) < (k : Int) := of_decide_eq_true h0
        exact Int.natCast_pos.mp this
      refine ⟨fun σ' H' => ∃ (n2 f2 : Nat), σ' = [some (.int a), some (.int b), some (.int n2), some (.int f2), none] ∧ f2 < k ∧ H' = HI ∧ Nat.gcd n2 f2 = Int.gcd a b ∧ n2 < 2 ^ 2000 ∧ f2 < 2 ^ 2000, ?_, ?_⟩
      · rintro σ' H' ⟨n2, f2, rfl, lt, rfl, h1, h2, h3⟩
        exact ⟨f2, lt, n2, f2, rfl, rfl, rfl, h1, h2, h3⟩
      · refine ⟨_, rfl, _, rfl, _, rfl, _, _, rfl, rfl, (Int.natCast_pos.mpr f0 : (0 : Int) < (k : Int)), _, _, rfl, ?_⟩
        refine ⟨k, n % k, ?_, Nat.mod_lt _ f0, rfl, ?_, hf, Nat.lt_trans (Nat.mod_lt _ f0) hf⟩
        · rw [Int.natCast_emod]
          rfl
        · rw [gcd_step]
          exact hg
    · have f0 : k = 0 := by
        have : ¬ ((0 : Int) < (k : Int)) := fun z => h0 (decide_eq_true z)
        exact Nat.eq_zero_of_not_pos fun z => this (Int.natCast_pos.mpr z)
      subst f0
      rw [Nat.gcd_zero_right] at hg
      subst hg
      refine sign_tell rfl ?_
      have g0 : (0 : Int) < (Int.gcd a b : Nat) := Int.natCast_pos.mpr (gcd_pos hb)
      have cd : ∀ x, CDivW x (Int.gcd a b : Nat) := fun x => wide_div (b := 2000) g0 (by rw [Int.natAbs_natCast]; exact hn) (by decide) (by decide)
      exact ⟨_, rfl, _, rfl, _, _, rfl, rfl, sgn_small b a, _, rfl, _, _, rfl, rfl, cd _, _, rfl, _, rfl, _, _, rfl, rfl, sgn_small b b, _, rfl, _, _, rfl, rfl, cd _, by show 2 ≤ sizeLine; decide, fun p np => q p _ (same_new np) (.inl (.inl upd_same))⟩
end
end SG

/-! Drawing among a number of things: plain mathematics. -/
namespace SG
inductive Out where
  | drawn (place level : Int)
  | opened (places place : Int)
def leavesOf (m pw : Int) : Int := if pw / m % 2 = 1 then m else 0
/-- going on from a depth: places, the own place, the power of 2, the depth, the tosses that are left -/
def dueF (m : Int) : Int → Int → Int → Int → List Int → Out
  | ps, p, pw, lv, [] => if p < leavesOf m pw then .drawn p lv else .opened (ps - leavesOf m pw) (p - leavesOf m pw)
  | ps, p, pw, lv, b :: bs => if p < leavesOf m pw then .drawn p lv else dueF m (2 * (ps - leavesOf m pw)) (2 * (p - leavesOf m pw) + b) (2 * pw) (lv + 1) bs
def due (m : Int) (bs : List Int) : Out := dueF m 1 0 1 0 bs
/-- what is drawn doesn't hang on what comes behind -/
theorem dueF_drawn {m : Int} : ∀ (bs : List Int) {ps p pw lv x y : Int}, dueF m ps p pw lv bs = .drawn x y → ∃ n : Nat, y = lv + n ∧ n ≤ bs.length ∧ (∀ cs, dueF m ps p pw lv (bs.take n ++ cs) = .drawn x y) ∧ (∀ k, k < n → ∃ u v, dueF m ps p pw lv (bs.take k) = .opened u v)
  | [], ps, p, pw, lv, x, y, h => by
    unfold dueF at h
    split at h
    · rename_i h0
      injection h with h1 h2
      refine ⟨0, by omega, Nat.le_refl _, fun cs => ?_, fun k hk => absurd hk (Nat.not_lt_zero _)⟩
      subst h1 h2
      cases cs with
      | nil => simp [dueF, h0]
      | cons c cs => simp [dueF, h0]
    · cases h
  | b :: bs, ps, p, pw, lv, x, y, h => by
    unfold dueF at h
    split at h
    · rename_i h0
      injection h with h1 h2
      refine ⟨0, by omega, Nat.zero_le _, fun cs => ?_, fun k hk => absurd hk (Nat.not_lt_zero _)⟩
      subst h1 h2
      cases cs with
      | nil => simp [dueF, h0]
      | cons c cs => simp [dueF, h0]
    · rename_i h0
      obtain ⟨n, h1, h2, h3, h4⟩ := dueF_drawn bs h
      refine ⟨n + 1, by omega, Nat.succ_le_succ h2, fun cs => ?_, fun k hk => ?_⟩
      · show dueF m ps p pw lv (b :: (bs.take n ++ cs)) = _
        unfold dueF
        rw [if_neg h0]
        exact h3 cs
      · cases k with
        | zero =>
          refine ⟨ps - leavesOf m pw, p - leavesOf m pw, ?_⟩
          show dueF m ps p pw lv [] = _
          unfold dueF
          rw [if_neg h0]
        | succ k =>
          obtain ⟨u, v, e⟩ := h4 k (Nat.lt_of_succ_lt_succ hk)
          refine ⟨u, v, ?_⟩
          show dueF m ps p pw lv (b :: bs.take k) = _
          unfold dueF
          rw [if_neg h0]
          exact e
def Out.small (N : Nat) : Out → Prop
  | .drawn x y => x.natAbs ≤ N ∧ y.natAbs ≤ N
  | .opened x y => x.natAbs ≤ N ∧ y.natAbs ≤ N
theorem leavesOf_abs (m pw : Int) : (leavesOf m pw).natAbs ≤ m.natAbs := by
  unfold leavesOf
  split
  · exact Nat.le_refl _
  · simp
theorem dueF_small {m : Int} : ∀ (bs : List Int) {ps p pw lv : Int} {B : Nat}, (∀ b ∈ bs, b.natAbs ≤ 1) → m.natAbs + 1 ≤ B → ps.natAbs ≤ B → p.natAbs ≤ B → lv.natAbs + bs.length ≤ B → (dueF m ps p pw lv bs).small (4 ^ (bs.length + 1) * B)
  | [], ps, p, pw, lv, B, hb, h0, h1, h2, h3 => by
    have l := leavesOf_abs m pw
    unfold dueF
    show Out.small (4 ^ 1 * B) _
    simp at h3
    split
    · exact ⟨by omega, by omega⟩
    · exact ⟨by omega, by omega⟩
  | b :: bs, ps, p, pw, lv, B, hb, h0, h1, h2, h3 => by
    have l := leavesOf_abs m pw
    have b1 := hb b List.mem_cons_self
    have big : B ≤ 4 ^ (bs.length + 1 + 1) * B := Nat.le_mul_of_pos_left B (Nat.pow_pos (by decide))
    rw [List.length_cons] at h3
    unfold dueF
    split
    · exact ⟨by rw [List.length_cons]; omega, by rw [List.length_cons]; omega⟩
    · have z := dueF_small bs (m := m) (ps := 2 * (ps - leavesOf m pw)) (p := 2 * (p - leavesOf m pw) + b) (pw := 2 * pw) (lv := lv + 1) (B := 4 * B) (fun x hx => hb x (List.mem_cons_of_mem _ hx)) (by omega) (by omega) (by omega) (by omega)
      rw [List.length_cons, Nat.pow_succ 4 (bs.length + 1), Nat.mul_assoc]
      exact z
theorem leaves_double {m pw : Int} (hm : 0 < m) : 2 * (pw % m) = 2 * pw % m + leavesOf m (2 * pw) := by
  have a0 := Int.emod_nonneg pw (show m ≠ 0 by omega)
  have a1 := Int.emod_lt_of_pos pw hm
  have a2 := Int.mul_ediv_add_emod pw m
  unfold leavesOf
  by_cases h : 2 * (pw % m) < m
  · have e : 2 * pw = 2 * (pw % m) + m * (2 * (pw / m)) := by
      have : m * (2 * (pw / m)) = 2 * (m * (pw / m)) := by rw [Int.mul_left_comm]
      omega
    have e1 : 2 * pw % m = 2 * (pw % m) := by
      rw [e, Int.add_mul_emod_self_left]
      exact Int.emod_eq_of_lt (by omega) h
    have e2 : 2 * pw / m = 2 * (pw / m) := by
      rw [e, Int.add_mul_ediv_left _ _ (show m ≠ 0 by omega), Int.ediv_eq_zero_of_lt (by omega) h, Int.zero_add]
    rw [e1, e2, if_neg (by omega), Int.add_zero]
  · have e : 2 * pw = (2 * (pw % m) - m) + m * (2 * (pw / m) + 1) := by
      have : m * (2 * (pw / m) + 1) = 2 * (m * (pw / m)) + m := by rw [Int.mul_add, Int.mul_one, Int.mul_left_comm]
      omega
    have e1 : 2 * pw % m = 2 * (pw % m) - m := by
      rw [e, Int.add_mul_emod_self_left]
      exact Int.emod_eq_of_lt (by omega) (by omega)
    have e2 : 2 * pw / m = 2 * (pw / m) + 1 := by
      rw [e, Int.add_mul_ediv_left _ _ (show m ≠ 0 by omega), Int.ediv_eq_zero_of_lt (by omega) (by omega), Int.zero_add]
    rw [e1, e2, if_pos (by omega)]
    omega
theorem dueF_open {m : Int} (hm : 0 < m) : ∀ (bs : List Int) {ps p pw lv x y : Int}, ps = pw % m + leavesOf m pw → dueF m ps p pw lv bs = .opened x y → x = pw * 2 ^ bs.length % m
  | [], ps, p, pw, lv, x, y, hp, h => by
    unfold dueF at h
    split at h
    · cases h
    · injection h with h1 h2
      show x = pw * 1 % m
      rw [Int.mul_one]
      omega
  | b :: bs, ps, p, pw, lv, x, y, hp, h => by
    unfold dueF at h
    split at h
    · cases h
    · have z := dueF_open hm bs (pw := 2 * pw) (by rw [← leaves_double hm]; omega) h
      rw [z, List.length_cons, Int.pow_succ]
      congr 1
      rw [Int.mul_comm 2 pw, Int.mul_assoc, Int.mul_comm 2]
theorem due_open {m : Int} (hm : 0 < m) {bs : List Int} {x y : Int} (h : due m bs = .opened x y) : x = 2 ^ bs.length % m := by
  have e : (1 : Int) = 1 % m + leavesOf m 1 := by
    unfold leavesOf
    by_cases h1 : m = 1
    · subst h1
      decide
    · rw [Int.emod_eq_of_lt (by omega) (by omega), Int.ediv_eq_zero_of_lt (by omega) (by omega)]
      simp
  have z := dueF_open hm bs e h
  rw [z, Int.one_mul]
end SG
namespace SG
/-- the same, places doubled at each toss -/
def drawF (m : Int) : Int → Int → Int → List Int → Out
  | ps, p, _, [] => .opened ps p
  | ps, p, lv, b :: bs => if m ≤ 2 * ps then (if 2 * p + b < m then .drawn (2 * p + b) (lv + 1) else drawF m (2 * ps - m) (2 * p + b - m) (lv + 1) bs) else drawF m (2 * ps) (2 * p + b) (lv + 1) bs
def restF (m ps p pw lv : Int) : List Int → Out
  | [] => .opened ps p
  | c :: cs => dueF m (2 * ps) (2 * p + c) (2 * pw) (lv + 1) cs
theorem dueF_rest {m ps p pw lv : Int} {bs : List Int} : dueF m ps p pw lv bs = if p < leavesOf m pw then .drawn p lv else restF m (ps - leavesOf m pw) (p - leavesOf m pw) pw lv bs := by
  cases bs <;> rfl
theorem restF_drawF {m : Int} (hm : 0 < m) : ∀ (bs : List Int) {p pw lv : Int}, 0 ≤ p → (∀ x ∈ bs, 0 ≤ x) → restF m (pw % m) p pw lv bs = drawF m (pw % m) p lv bs
  | [], p, pw, lv, hp, hb => rfl
  | b :: bs, p, pw, lv, hp, hb => by
    have b0 := hb b List.mem_cons_self
    have l2 := leaves_double (pw := pw) hm
    have h0 := Int.emod_nonneg (2 * pw) (show m ≠ 0 by omega)
    have h1 := Int.emod_lt_of_pos (2 * pw) hm
    have lv2 : leavesOf m (2 * pw) = m ∨ leavesOf m (2 * pw) = 0 := by
      unfold leavesOf
      split
      · exact .inl rfl
      · exact .inr rfl
    have next : ∀ q : Int, 0 ≤ q → restF m (2 * pw % m) q (2 * pw) (lv + 1) bs = drawF m (2 * pw % m) q (lv + 1) bs :=
      fun q hq => restF_drawF hm bs hq fun x hx => hb x (List.mem_cons_of_mem _ hx)
    show dueF m (2 * (pw % m)) (2 * p + b) (2 * pw) (lv + 1) bs = if m ≤ 2 * (pw % m) then (if 2 * p + b < m then .drawn (2 * p + b) (lv + 1) else drawF m (2 * (pw % m) - m) (2 * p + b - m) (lv + 1) bs) else drawF m (2 * (pw % m)) (2 * p + b) (lv + 1) bs
    rw [dueF_rest]
    by_cases h : m ≤ 2 * (pw % m)
    · have e : leavesOf m (2 * pw) = m := by
        rcases lv2 with e | e <;> omega
      have e2 : 2 * (pw % m) - m = 2 * pw % m := by omega
      rw [if_pos h, e, e2]
      by_cases h2 : 2 * p + b < m
      · rw [if_pos h2, if_pos h2]
      · rw [if_neg h2, if_neg h2]
        exact next _ (by omega)
    · have e : leavesOf m (2 * pw) = 0 := by
        rcases lv2 with e | e <;> omega
      have e2 : 2 * (pw % m) = 2 * pw % m := by omega
      rw [if_neg h, e, Int.sub_zero, Int.sub_zero, e2, if_neg (by omega)]
      exact next _ (by omega)
theorem due_one (bs : List Int) : due 1 bs = .drawn 0 0 := by
  cases bs <;> rfl
theorem due_drawF {m : Int} (hm : 1 < m) (bs : List Int) (hb : ∀ x ∈ bs, 0 ≤ x) : due m bs = drawF m 1 0 0 bs := by
  have e : leavesOf m 1 = 0 := by
    unfold leavesOf
    rw [Int.ediv_eq_zero_of_lt (by omega) hm]
    rfl
  have e1 : (1 : Int) % m = 1 := Int.emod_eq_of_lt (by omega) hm
  have z := restF_drawF (show 0 < m by omega) bs (p := 0) (pw := 1) (lv := 0) (by omega) hb
  rw [e1] at z
  unfold due
  rw [dueF_rest, e, if_neg (by omega)]
  exact z
/-- figures of base 2 as a number -/
def valF (a : Nat) (gs : List Nat) : Nat := gs.foldl (fun a g => 2 * a + (g - 48)) a
def powF (m : Int) : Int → List Nat → Int
  | l, [] => l
  | l, g :: gs => powF m (l * l * (if g = 49 then 2 else 1) % m) gs
theorem powF_ok {m : Int} (hm : 0 < m) : ∀ (gs : List Nat) (a : Nat), (∀ g ∈ gs, g = 48 ∨ g = 49) → powF m (2 ^ a % m) gs = 2 ^ valF a gs % m
  | [], a, _ => rfl
  | g :: gs, a, h => by
    have hg := h g List.mem_cons_self
    unfold powF
    have e : (2 ^ a % m) * (2 ^ a % m) * (if g = 49 then 2 else 1) % m = 2 ^ (2 * a + (g - 48)) % m := by
      rw [Int.mul_emod, ← Int.mul_emod (2 ^ a) (2 ^ a) m, ← Int.mul_emod, ← Int.pow_add]
      rcases hg with rfl | rfl
      · simp
        congr 2
        omega
      · rw [if_pos rfl, ← Int.pow_succ]
        congr 2
        omega
    rw [e]
    exact powF_ok hm gs _ fun x hx => h x (List.mem_cons_of_mem _ hx)
theorem bin_val : ∀ n : Nat, n < 401 → valF 0 ((Nat.toDigits 2 n).map Char.toNat) = n ∧ (∀ g ∈ (Nat.toDigits 2 n).map Char.toNat, g = 48 ∨ g = 49) ∧ ((Nat.toDigits 2 n).map Char.toNat).length ≤ 9 := by decide +kernel
end SG

/-! Drawing by weights, rounds of rests, means: plain mathematics. -/
namespace SG
/-! ### rounds -/
section
variable {α β : Type}
def orb (f : α → α) (s : α) : Nat → α
  | 0 => s
  | k + 1 => f (orb f s k)
/-- the first term that comes again is the one with the number n; it was the one with the number i -/
def IsRound (o : Nat → α) (i n : Nat) : Prop := i < n ∧ o n = o i ∧ ∀ a b, a < b → b < n → o a ≠ o b
theorem IsRound.uniq {o : Nat → α} {i n i2 n2 : Nat} (h : IsRound o i n) (k : IsRound o i2 n2) : i = i2 ∧ n = n2 := by
  have e : n = n2 := by
    rcases Nat.lt_trichotomy n n2 with z | z | z
    · exact absurd h.2.1.symm (k.2.2 i n h.1 z)
    · exact z
    · exact absurd k.2.1.symm (h.2.2 i2 n2 k.1 z)
  subst e
  refine ⟨?_, rfl⟩
  have q : o i = o i2 := h.2.1.symm.trans k.2.1
  rcases Nat.lt_trichotomy i i2 with z | z | z
  · exact absurd q (h.2.2 i i2 z k.1)
  · exact z
  · exact absurd q.symm (h.2.2 i2 i z h.1)
theorem IsRound.map {o : Nat → α} {p : Nat → β} {i n : Nat} (h : IsRound o i n) (e : ∀ a b, p a = p b ↔ o a = o b) : IsRound p i n :=
  ⟨h.1, (e _ _).mpr h.2.1, fun a b h1 h2 q => h.2.2 a b h1 h2 ((e _ _).mp q)⟩
/-- as few terms as there are of a kind: no more than those come ahead of a first repetition -/
theorem few_terms {o : Nat → α} {g : Nat → Nat} {N n : Nat} (hg : ∀ a b, g a = g b → o a = o b) (hN : ∀ a, g a < N) (h : ∀ a b, a < b → b < n → o a ≠ o b) : n ≤ N := by
  have nd : ((List.range n).map g).Nodup := by
    rw [List.nodup_iff_pairwise_ne, List.pairwise_map]
    refine List.Pairwise.imp_of_mem (R := fun a b => a < b) ?_ List.pairwise_lt_range
    intro a b ha hb lt q
    exact h a b lt (List.mem_range.mp hb) (hg a b q)
  have sub : ∀ x ∈ (List.range n).map g, x ∈ List.range N := by
    intro x hx
    obtain ⟨a, _, rfl⟩ := List.mem_map.mp hx
    exact List.mem_range.mpr (hN a)
  have l := List.Nodup.length_le_of_subset nd sub
  simpa using l
end
/-! ### rests -/
def dbl (S : Int) (r : List Int) : List Int := r.map fun x => 2 * x % S
def redu (S : Int) (r : List Int) : List Int := r.map fun x => x % S
def restsAt (S : Int) (w : List Int) (k : Nat) : List Int := w.map fun x => 2 ^ k * x % S
theorem restsAt_zero (S : Int) (w : List Int) : restsAt S w 0 = redu S w := by
  unfold restsAt redu
  refine List.map_congr_left fun x _ => ?_
  rw [show (2 : Int) ^ 0 * x = x by simp]
theorem restsAt_succ (S : Int) (w : List Int) (k : Nat) : restsAt S w (k + 1) = dbl S (restsAt S w k) := by
  unfold restsAt dbl
  rw [List.map_map]
  refine List.map_congr_left fun x _ => ?_
  show 2 ^ (k + 1) * x % S = 2 * (2 ^ k * x % S) % S
  rw [Int.pow_succ, show (2 : Int) ^ k * 2 * x = 2 * (2 ^ k * x) by rw [Int.mul_comm (2 ^ k) 2, Int.mul_assoc], Int.mul_emod 2 (2 ^ k * x % S), Int.emod_emod, ← Int.mul_emod]
theorem orb_rests (S : Int) (w : List Int) : ∀ k, orb (dbl S) (redu S w) k = restsAt S w k
  | 0 => (restsAt_zero S w).symm
  | k + 1 => by
    rw [restsAt_succ, ← orb_rests S w k]
    rfl
theorem pow_left {S : Int} (x : Int) (k : Nat) : 2 ^ k * x % S = (2 ^ k % S) * x % S := by
  calc 2 ^ k * x % S = (2 ^ k % S * (x % S)) % S := Int.mul_emod _ _ _
    _ = ((2 ^ k % S % S) * (x % S)) % S := by rw [Int.emod_emod]
    _ = (2 ^ k % S) * x % S := (Int.mul_emod _ _ _).symm
/-- no more rounds than the whole -/
theorem round_le {S : Int} (hS : 0 < S) (w : List Int) {n : Nat} (h : ∀ a b, a < b → b < n → restsAt S w a ≠ restsAt S w b) : (n : Int) ≤ S := by
  have z := few_terms (o := restsAt S w) (g := fun k => (2 ^ k % S : Int).toNat) (N := S.toNat) (fun a b e => ?_) (fun a => ?_) h
  · omega
  · have a0 := Int.emod_nonneg (2 ^ a : Int) (show S ≠ 0 by omega)
    have b0 := Int.emod_nonneg (2 ^ b : Int) (show S ≠ 0 by omega)
    have e : (2 ^ a % S : Int) = 2 ^ b % S := by
      have e : (2 ^ a % S : Int).toNat = (2 ^ b % S : Int).toNat := e
      omega
    unfold restsAt
    refine List.map_congr_left fun x _ => ?_
    rw [pow_left, pow_left, e]
  · have a0 := Int.emod_nonneg (2 ^ a : Int) (show S ≠ 0 by omega)
    have a1 := Int.emod_lt_of_pos (2 ^ a : Int) hS
    show (2 ^ a % S : Int).toNat < S.toNat
    omega
/-! ### weights times a number -/
theorem mul_emod_both {c S x : Int} (hc : 0 < c) : c * x % (c * S) = c * (x % S) := Int.mul_emod_mul_of_pos x S hc
theorem rests_scaled {c S : Int} (hc : 0 < c) (w : List Int) (k : Nat) : restsAt (c * S) (w.map (c * ·)) k = (restsAt S w k).map (c * ·) := by
  unfold restsAt
  rw [List.map_map, List.map_map]
  refine List.map_congr_left fun x _ => ?_
  show 2 ^ k * (c * x) % (c * S) = c * (2 ^ k * x % S)
  rw [Int.mul_left_comm, mul_emod_both hc]
theorem sum_scaled (c : Int) : ∀ r : List Int, (r.map (c * ·)).sum = c * r.sum
  | [] => by simp
  | x :: r => by
    rw [List.map_cons, List.sum_cons, List.sum_cons, sum_scaled c r, Int.mul_add]
theorem map_inj_list {c : Int} (hc : 0 < c) : ∀ a b : List Int, a.map (c * ·) = b.map (c * ·) ↔ a = b := by
  intro a b
  exact List.map_inj_right fun x y e => Int.eq_of_mul_eq_mul_left (by omega) e
/-! ### weights with noughts between them -/
def put : List Bool → List Int → List Int
  | true :: p, x :: r => x :: put p r
  | true :: _, [] => []
  | false :: p, r => 0 :: put p r
  | [], _ => []
def trues (p : List Bool) : Nat := p.countP (· = true)
theorem put_map (f : Int → Int) (h0 : f 0 = 0) : ∀ (p : List Bool) (r : List Int), (put p r).map f = put p (r.map f)
  | [], _ => rfl
  | true :: p, [] => rfl
  | true :: p, x :: r => by
    show f x :: (put p r).map f = f x :: put p (r.map f)
    rw [put_map f h0 p r]
  | false :: p, r => by
    show f 0 :: (put p r).map f = 0 :: put p (r.map f)
    rw [h0, put_map f h0 p r]
theorem put_sum : ∀ (p : List Bool) (r : List Int), trues p = r.length → (put p r).sum = r.sum
  | [], [], _ => rfl
  | [], _ :: _, h => by simp [trues] at h
  | true :: p, [], h => by simp [trues] at h
  | true :: p, x :: r, h => by
    show (x :: put p r).sum = _
    rw [List.sum_cons, List.sum_cons, put_sum p r (by simpa [trues] using h)]
  | false :: p, r, h => by
    show ((0 : Int) :: put p r).sum = _
    rw [List.sum_cons, put_sum p r (by simpa [trues] using h), Int.zero_add]
theorem put_inj : ∀ (p : List Bool) (a b : List Int), trues p = a.length → trues p = b.length → put p a = put p b → a = b
  | [], [], [], _, _, _ => rfl
  | [], _ :: _, _, h, _, _ => by simp [trues] at h
  | [], [], _ :: _, _, h, _ => by simp [trues] at h
  | true :: p, [], _, h, _, _ => by simp [trues] at h
  | true :: p, _ :: _, [], _, h, _ => by simp [trues] at h
  | true :: p, x :: a, y :: b, h1, h2, e => by
    have e : x :: put p a = y :: put p b := e
    injection e with e1 e2
    rw [e1, put_inj p a b (by simpa [trues] using h1) (by simpa [trues] using h2) e2]
  | false :: p, a, b, h1, h2, e => by
    have e : (0 : Int) :: put p a = 0 :: put p b := e
    injection e with _ e2
    exact put_inj p a b (by simpa [trues] using h1) (by simpa [trues] using h2) e2
theorem put_app : ∀ (p q : List Bool) (a b : List Int), trues p = a.length → put (p ++ q) (a ++ b) = put p a ++ put q b
  | [], q, [], b, _ => rfl
  | [], q, _ :: _, b, h => by simp [trues] at h
  | true :: p, q, [], b, h => by simp [trues] at h
  | true :: p, q, x :: a, b, h => by
    show x :: put (p ++ q) (a ++ b) = x :: (put p a ++ put q b)
    rw [put_app p q a b (by simpa [trues] using h)]
  | false :: p, q, a, b, h => by
    show (0 : Int) :: put (p ++ q) (a ++ b) = 0 :: (put p a ++ put q b)
    rw [put_app p q a b (by simpa [trues] using h)]
theorem put_len : ∀ (p : List Bool) (a : List Int), trues p = a.length → (put p a).length = p.length
  | [], _, _ => rfl
  | true :: p, [], h => by simp [trues] at h
  | true :: p, x :: a, h => by
    show (x :: put p a).length = _
    rw [List.length_cons, List.length_cons, put_len p a (by simpa [trues] using h)]
  | false :: p, a, h => by
    show ((0 : Int) :: put p a).length = _
    rw [List.length_cons, List.length_cons, put_len p a (by simpa [trues] using h)]
theorem put_mem : ∀ (p : List Bool) (a : List Int), ∀ x ∈ put p a, x = 0 ∨ x ∈ a
  | [], _, x, h => by simp [put] at h
  | true :: p, [], x, h => by simp [put] at h
  | true :: p, y :: a, x, h => by
    have h : x ∈ y :: put p a := h
    rcases List.mem_cons.mp h with rfl | h
    · exact .inr List.mem_cons_self
    · rcases put_mem p a x h with z | z
      · exact .inl z
      · exact .inr (List.mem_cons_of_mem _ z)
  | false :: p, a, x, h => by
    have h : x ∈ (0 : Int) :: put p a := h
    rcases List.mem_cons.mp h with rfl | h
    · exact .inl rfl
    · exact put_mem p a x h
theorem rests_put (S : Int) (p : List Bool) (w : List Int) (k : Nat) : restsAt S (put p w) k = put p (restsAt S w k) :=
  put_map (fun x => 2 ^ k * x % S) (by simp) p w
/-! ### weights alike -/
theorem sum_replicate (n : Nat) (x : Int) : (List.replicate n x).sum = n * x := by
  induction n with
  | zero => simp
  | succ n ih =>
    rw [List.replicate_succ, List.sum_cons, ih, Int.natCast_succ, Int.add_mul, Int.one_mul, Int.add_comm]
theorem rests_alike {n : Nat} {W : Int} (hW : 0 < W) (k : Nat) : restsAt (n * W) (List.replicate n W) k = List.replicate n (W * (2 ^ k % n)) := by
  unfold restsAt
  rw [List.map_replicate]
  congr 1
  rw [Int.mul_comm (n : Int) W, Int.mul_comm ((2 : Int) ^ k) W, mul_emod_both hW]
/-! ### the mean -/
def weighed (l : List Int) : Int := l.foldl (fun t x => 2 * t + x) 0
def opensTo (o : Nat → Int) (n : Nat) : List Int := (List.range n).map o
def topM (o : Nat → Int) (i n : Nat) : Int := weighed ((opensTo o n).take i) * (2 ^ (n - i) - 1) * 2 + weighed ((opensTo o n).drop i) * 2
def botM (i n : Nat) : Int := (2 ^ (n - i) - 1) * 2 ^ i
theorem weighed_snoc (l : List Int) (x : Int) : weighed (l ++ [x]) = 2 * weighed l + x := by
  unfold weighed
  rw [List.foldl_append]
  rfl
theorem foldl_le {B : Int} : ∀ (l : List Int) (t : Int), 0 ≤ t → (∀ x ∈ l, 0 ≤ x ∧ x ≤ B) → 0 ≤ l.foldl (fun t x => 2 * t + x) t ∧ l.foldl (fun t x => 2 * t + x) t ≤ 2 ^ l.length * t + (2 ^ l.length - 1) * B
  | [], t, ht, _ => by simp; exact ht
  | x :: l, t, ht, h => by
    have hx := h x List.mem_cons_self
    have z := foldl_le l (2 * t + x) (by omega) fun y hy => h y (List.mem_cons_of_mem _ hy)
    refine ⟨z.1, Int.le_trans z.2 ?_⟩
    rw [List.length_cons, Int.pow_succ]
    have p : (0 : Int) < 2 ^ l.length := Int.pow_pos (by decide)
    have e1 : (2 : Int) ^ l.length * (2 * t + x) = 2 ^ l.length * 2 * t + 2 ^ l.length * x := by rw [Int.mul_add, Int.mul_assoc]
    have e2 : ((2 : Int) ^ l.length * 2 - 1) * B = (2 ^ l.length - 1) * B + 2 ^ l.length * B := by
      rw [Int.sub_mul, Int.sub_mul, Int.mul_comm ((2 : Int) ^ l.length) 2, Int.mul_assoc 2]
      omega
    have e3 : (2 : Int) ^ l.length * x ≤ 2 ^ l.length * B := Int.mul_le_mul_of_nonneg_left hx.2 (by omega)
    rw [e1, e2]
    omega
theorem weighed_le {B : Int} {l : List Int} {N : Nat} (h : ∀ x ∈ l, 0 ≤ x ∧ x ≤ B) (hB : 0 ≤ B) (hN : l.length ≤ N) : 0 ≤ weighed l ∧ weighed l ≤ 2 ^ N * B := by
  have z := foldl_le l 0 (Int.le_refl 0) h
  refine ⟨z.1, Int.le_trans z.2 ?_⟩
  have p : (2 : Int) ^ l.length ≤ 2 ^ N := by
    have q : (2 : Nat) ^ l.length ≤ 2 ^ N := Nat.pow_le_pow_right (by decide) hN
    exact_mod_cast q
  have e : ((2 : Int) ^ l.length - 1) * B ≤ 2 ^ N * B := Int.mul_le_mul_of_nonneg_right (by omega) hB
  simp only [Int.mul_zero, Int.zero_add]
  exact e
end SG

/-! Drawing by weights: plain mathematics. -/
namespace SG
/-- the numbers of the places at which P holds -/
def idx (P : Int → Bool) : Nat → List Int → List Int
  | _, [] => []
  | i, x :: r => if P x = true then (i : Int) :: idx P (i + 1) r else idx P (i + 1) r
def at0 (l : List Int) (q : Int) : Int := l.getD q.toNat 0
theorem idx_congr {P Q : Int → Bool} {f : Int → Int} : ∀ (r : List Int) (i : Nat), (∀ x ∈ r, P x = Q (f x)) → idx P i r = idx Q i (r.map f)
  | [], _, _ => rfl
  | x :: r, i, h => by
    show (if P x = true then (i : Int) :: idx P (i + 1) r else idx P (i + 1) r) = (if Q (f x) = true then (i : Int) :: idx Q (i + 1) (r.map f) else idx Q (i + 1) (r.map f))
    rw [h x List.mem_cons_self, idx_congr r (i + 1) fun y hy => h y (List.mem_cons_of_mem _ hy)]
theorem idx_mem {P : Int → Bool} : ∀ (r : List Int) (i : Nat), ∀ x ∈ idx P i r, (i : Int) ≤ x ∧ x < i + r.length
  | [], _, x, h => by simp [idx] at h
  | y :: r, i, x, h => by
    have h : x ∈ (if P y = true then (i : Int) :: idx P (i + 1) r else idx P (i + 1) r) := h
    have hr : x ∈ idx P (i + 1) r → (i : Int) ≤ x ∧ x < i + (y :: r).length := fun z => by
      have := idx_mem r (i + 1) x z
      rw [List.length_cons]
      omega
    split at h
    · rcases List.mem_cons.mp h with rfl | z
      · rw [List.length_cons]
        omega
      · exact hr z
    · exact hr h
theorem idx_len {P : Int → Bool} : ∀ (r : List Int) (i : Nat), (idx P i r).length ≤ r.length
  | [], _ => Nat.le_refl _
  | y :: r, i => by
    have := idx_len (P := P) r (i + 1)
    show (if P y = true then (i : Int) :: idx P (i + 1) r else idx P (i + 1) r).length ≤ _
    split <;> simp only [List.length_cons] <;> omega
theorem at0_mem {l : List Int} {q : Int} (h0 : 0 ≤ q) (h : q < l.length) : at0 l q ∈ l := by
  have hq : q.toNat < l.length := by omega
  unfold at0
  rw [List.getD_eq_getElem?_getD, List.getElem?_eq_getElem hq]
  exact List.getElem_mem hq
/-! ### drawing by weights, the rests doubled at each toss -/
def big (S : Int) : Int → Bool := fun x => decide (S ≤ 2 * x)
def dbyF (S : Int) : List Int → Int → Int → List Int → Out
  | r, p, _, [] => .opened (r.sum / S) p
  | r, p, lv, b :: bs => if 2 * p + b < (idx (big S) 0 r).length then .drawn (at0 (idx (big S) 0 r) (2 * p + b)) (lv + 1) else dbyF S (dbl S r) (2 * p + b - (idx (big S) 0 r).length) (lv + 1) bs
def isS (S : Int) : Int → Bool := fun x => decide (x = S)
def dby (S : Int) (w : List Int) (bs : List Int) : Out := if S ∈ w then .drawn (at0 (idx (isS S) 0 w) 0) 0 else dbyF S w 0 0 bs
/-! ### by powers of 2 -/
def oddP (S pw : Int) : Int → Bool := fun x => decide (pw * x / S % 2 = 1)
def lawF (S : Int) (w : List Int) : Int → Int → Int → Int → List Int → Out
  | ps, p, pw, lv, [] => if p < (idx (oddP S pw) 0 w).length then .drawn (at0 (idx (oddP S pw) 0 w) p) lv else .opened (ps - (idx (oddP S pw) 0 w).length) (p - (idx (oddP S pw) 0 w).length)
  | ps, p, pw, lv, b :: bs => if p < (idx (oddP S pw) 0 w).length then .drawn (at0 (idx (oddP S pw) 0 w) p) lv else lawF S w (2 * (ps - (idx (oddP S pw) 0 w).length)) (2 * (p - (idx (oddP S pw) 0 w).length) + b) (2 * pw) (lv + 1) bs
def lawR (S : Int) (w : List Int) (ps p pw lv : Int) : List Int → Out
  | [] => .opened ps p
  | b :: bs => lawF S w (2 * ps) (2 * p + b) (2 * pw) (lv + 1) bs
theorem lawF_R {S : Int} {w : List Int} {ps p pw lv : Int} {bs : List Int} : lawF S w ps p pw lv bs = if p < (idx (oddP S pw) 0 w).length then .drawn (at0 (idx (oddP S pw) 0 w) p) lv else lawR S w (ps - (idx (oddP S pw) 0 w).length) (p - (idx (oddP S pw) 0 w).length) pw lv bs := by
  cases bs <;> rfl
theorem odd_big {S : Int} (hS : 0 < S) (pw x : Int) : oddP S (2 * pw) x = big S (pw * x % S) := by
  have z := leaves_double (pw := pw * x) hS
  have e : 2 * pw * x = 2 * (pw * x) := Int.mul_assoc ..
  have a0 := Int.emod_nonneg (pw * x) (show S ≠ 0 by omega)
  have b0 := Int.emod_nonneg (2 * (pw * x)) (show S ≠ 0 by omega)
  have b1 := Int.emod_lt_of_pos (2 * (pw * x)) hS
  unfold oddP big
  rw [e]
  unfold leavesOf at z
  by_cases h : 2 * (pw * x) / S % 2 = 1
  · rw [if_pos h] at z
    rw [decide_eq_true h]
    exact (decide_eq_true (by omega)).symm
  · rw [if_neg h] at z
    rw [decide_eq_false h]
    exact (decide_eq_false (by omega)).symm
def at2 (S pw : Int) (w : List Int) : List Int := w.map fun x => pw * x % S
theorem at2_dbl (S pw : Int) (w : List Int) : at2 S (2 * pw) w = dbl S (at2 S pw w) := by
  unfold at2 dbl
  rw [List.map_map]
  refine List.map_congr_left fun x _ => ?_
  show 2 * pw * x % S = 2 * (pw * x % S) % S
  rw [Int.mul_assoc, Int.mul_emod 2 (pw * x % S), Int.emod_emod, ← Int.mul_emod]
/-- what is doubled, less what is drawn -/
theorem sum_dbl {S : Int} (hS : 0 < S) : ∀ (r : List Int) (i : Nat), (∀ x ∈ r, 0 ≤ x ∧ x < S) → 2 * r.sum = (dbl S r).sum + S * (idx (big S) i r).length
  | [], _, _ => by simp [dbl, idx]
  | x :: r, i, h => by
    have hx := h x List.mem_cons_self
    have z := sum_dbl hS r (i + 1) fun y hy => h y (List.mem_cons_of_mem _ hy)
    have e1 : (dbl S (x :: r)).sum = 2 * x % S + (dbl S r).sum := by
      show (2 * x % S :: dbl S r).sum = _
      rw [List.sum_cons]
    have e2 : idx (big S) i (x :: r) = if big S x = true then (i : Int) :: idx (big S) (i + 1) r else idx (big S) (i + 1) r := rfl
    rw [e1, e2, List.sum_cons]
    by_cases hb : S ≤ 2 * x
    · have m : 2 * x % S = 2 * x - S := by
        rw [show 2 * x = (2 * x - S) + S * 1 by omega, Int.add_mul_emod_self_left]
        have : (2 * x - S + S * 1 - S) = 2 * x - S := by omega
        rw [this]
        exact Int.emod_eq_of_lt (by omega) (by omega)
      rw [if_pos (by unfold big; exact decide_eq_true hb), List.length_cons, m]
      rw [show ((idx (big S) (i + 1) r).length + 1 : Nat) = ((idx (big S) (i + 1) r).length : Int) + 1 by omega, Int.mul_add S, Int.mul_one]
      omega
    · have m : 2 * x % S = 2 * x := Int.emod_eq_of_lt (by omega) (by omega)
      rw [if_neg (by unfold big; simpa using hb), m]
      omega
theorem lawR_dby {S : Int} (hS : 0 < S) {w : List Int} : ∀ (bs : List Int) {ps p pw lv : Int}, (at2 S pw w).sum = S * ps → lawR S w ps p pw lv bs = dbyF S (at2 S pw w) p lv bs
  | [], ps, p, pw, lv, hs => by
    show Out.opened ps p = .opened ((at2 S pw w).sum / S) p
    rw [hs, Int.mul_ediv_cancel_left _ (show S ≠ 0 by omega)]
  | b :: bs, ps, p, pw, lv, hs => by
    have e : idx (oddP S (2 * pw)) 0 w = idx (big S) 0 (at2 S pw w) := idx_congr w 0 fun x _ => odd_big hS pw x
    have bd : ∀ x ∈ at2 S pw w, 0 ≤ x ∧ x < S := by
      intro x hx
      obtain ⟨y, _, rfl⟩ := List.mem_map.mp hx
      exact ⟨Int.emod_nonneg _ (by omega), Int.emod_lt_of_pos _ hS⟩
    have sd := sum_dbl hS (at2 S pw w) 0 bd
    show lawF S w (2 * ps) (2 * p + b) (2 * pw) (lv + 1) bs = if 2 * p + b < (idx (big S) 0 (at2 S pw w)).length then .drawn (at0 (idx (big S) 0 (at2 S pw w)) (2 * p + b)) (lv + 1) else dbyF S (dbl S (at2 S pw w)) (2 * p + b - (idx (big S) 0 (at2 S pw w)).length) (lv + 1) bs
    rw [lawF_R, e]
    split
    · rfl
    · rw [← at2_dbl]
      refine lawR_dby hS bs ?_
      rw [at2_dbl, Int.mul_sub]
      rw [hs] at sd
      have : S * (2 * ps) = 2 * (S * ps) := Int.mul_left_comm ..
      omega
/-- all but one of some weights are noughts if that one is their sum -/
theorem idx_none {P : Int → Bool} : ∀ (r : List Int) (i : Nat), (∀ x ∈ r, P x = false) → idx P i r = []
  | [], _, _ => rfl
  | x :: r, i, h => by
    show (if P x = true then (i : Int) :: idx P (i + 1) r else idx P (i + 1) r) = []
    rw [h x List.mem_cons_self, if_neg Bool.false_ne_true, idx_none r (i + 1) fun y hy => h y (List.mem_cons_of_mem _ hy)]
theorem sum_nn : ∀ (r : List Int), (∀ x ∈ r, 0 ≤ x) → 0 ≤ r.sum
  | [], _ => by simp
  | x :: r, h => by
    have a := h x List.mem_cons_self
    have z := sum_nn r fun y hy => h y (List.mem_cons_of_mem _ hy)
    rw [List.sum_cons]
    omega
theorem mem_le_sum : ∀ (r : List Int), (∀ x ∈ r, 0 ≤ x) → ∀ x ∈ r, x ≤ r.sum
  | y :: r, h, x, hx => by
    have a := h y List.mem_cons_self
    have z := sum_nn r fun y hy => h y (List.mem_cons_of_mem _ hy)
    rw [List.sum_cons]
    rcases List.mem_cons.mp hx with rfl | hx
    · omega
    · have := mem_le_sum r (fun y hy => h y (List.mem_cons_of_mem _ hy)) x hx
      omega
theorem odd_isS {S : Int} (hS : 0 < S) {x : Int} (h0 : 0 ≤ x) (h1 : x ≤ S) : oddP S 1 x = isS S x := by
  unfold oddP isS
  rw [Int.one_mul]
  by_cases h : x = S
  · subst h
    rw [Int.ediv_self (by omega)]
    simp
  · rw [Int.ediv_eq_zero_of_lt h0 (by omega)]
    simp [h]
theorem idx_pos {P : Int → Bool} : ∀ (r : List Int) (i : Nat), (∃ x ∈ r, P x = true) → 0 < (idx P i r).length
  | [], _, h => by simp at h
  | y :: r, i, ⟨x, hx, hp⟩ => by
    show 0 < (if P y = true then (i : Int) :: idx P (i + 1) r else idx P (i + 1) r).length
    split
    · simp
    · rename_i h
      rcases List.mem_cons.mp hx with rfl | hx
      · exact absurd hp h
      · exact idx_pos r (i + 1) ⟨x, hx, hp⟩
theorem law_dby {S : Int} (hS : 0 < S) {w : List Int} (hw : ∀ x ∈ w, 0 ≤ x) (hsum : w.sum = S) (bs : List Int) : lawF S w 1 0 1 0 bs = dby S w bs := by
  have le := mem_le_sum w hw
  rw [hsum] at le
  have e : idx (oddP S 1) 0 w = idx (isS S) 0 w := by
    have z := idx_congr (P := oddP S 1) (Q := isS S) (f := fun x => x) w 0 fun x hx => odd_isS hS (hw x hx) (le x hx)
    rwa [List.map_id'] at z
  rw [lawF_R, e]
  unfold dby
  by_cases h : S ∈ w
  · have p := idx_pos w 0 (P := isS S) ⟨S, h, by unfold isS; simp⟩
    rw [if_pos (by omega), if_pos h]
  · have n : idx (isS S) 0 w = [] := idx_none w 0 fun x hx => by
      unfold isS
      exact decide_eq_false fun z => h (z ▸ hx)
    rw [if_neg h, n]
    have e2 : at2 S 1 w = w := by
      unfold at2
      have : ∀ x ∈ w, (fun x => 1 * x % S) x = x := fun x hx => by
        show 1 * x % S = x
        rw [Int.one_mul]
        have := le x hx
        have : x ≠ S := fun z => h (z ▸ hx)
        exact Int.emod_eq_of_lt (hw x hx) (by omega)
      rw [List.map_congr_left this, List.map_id']
    have z := lawR_dby hS (w := w) bs (ps := 1) (p := 0) (pw := 1) (lv := 0) (by rw [e2, hsum, Int.mul_one])
    rw [e2] at z
    simpa using z
end SG

/-! Drawing by weights: the same by other weights. -/
namespace SG
theorem dbl_scaled {c S : Int} (hc : 0 < c) (r : List Int) : dbl (c * S) (r.map (c * ·)) = (dbl S r).map (c * ·) := by
  unfold dbl
  rw [List.map_map, List.map_map]
  refine List.map_congr_left fun x _ => ?_
  show 2 * (c * x) % (c * S) = c * (2 * x % S)
  rw [Int.mul_left_comm, mul_emod_both hc]
theorem big_scaled {c S : Int} (hc : 0 < c) (x : Int) : big S x = big (c * S) (c * x) := by
  unfold big
  have e : 2 * (c * x) = c * (2 * x) := Int.mul_left_comm ..
  rw [e]
  exact decide_eq_decide.mpr ⟨fun h => Int.mul_le_mul_of_nonneg_left h (by omega), fun h => Int.le_of_mul_le_mul_left h hc⟩
theorem dbyF_scaled {c S : Int} (hc : 0 < c) (hS : 0 < S) : ∀ (bs : List Int) (r : List Int) (p lv : Int), dbyF (c * S) (r.map (c * ·)) p lv bs = dbyF S r p lv bs
  | [], r, p, lv => by
    show Out.opened ((r.map (c * ·)).sum / (c * S)) p = .opened (r.sum / S) p
    rw [sum_scaled, Int.mul_ediv_mul_of_pos _ _ hc]
  | b :: bs, r, p, lv => by
    have e : idx (big (c * S)) 0 (r.map (c * ·)) = idx (big S) 0 r := (idx_congr r 0 fun x _ => big_scaled hc x).symm
    show (if 2 * p + b < (idx (big (c * S)) 0 (r.map (c * ·))).length then Out.drawn (at0 (idx (big (c * S)) 0 (r.map (c * ·))) (2 * p + b)) (lv + 1) else dbyF (c * S) (dbl (c * S) (r.map (c * ·))) (2 * p + b - (idx (big (c * S)) 0 (r.map (c * ·))).length) (lv + 1) bs) = _
    rw [e, dbl_scaled hc, dbyF_scaled hc hS bs]
    rfl
theorem dby_scaled {c S : Int} (hc : 0 < c) (hS : 0 < S) (w bs : List Int) : dby (c * S) (w.map (c * ·)) bs = dby S w bs := by
  have inj : ∀ x : Int, c * x = c * S ↔ x = S := fun x => ⟨fun h => Int.eq_of_mul_eq_mul_left (by omega) h, fun h => by rw [h]⟩
  have m : c * S ∈ w.map (c * ·) ↔ S ∈ w := by
    rw [List.mem_map]
    exact ⟨fun ⟨x, hx, e⟩ => (inj x).mp e ▸ hx, fun h => ⟨S, h, rfl⟩⟩
  have e : idx (isS (c * S)) 0 (w.map (c * ·)) = idx (isS S) 0 w := (idx_congr w 0 fun x _ => by
    unfold isS
    exact decide_eq_decide.mpr (inj x).symm).symm
  unfold dby
  by_cases h : S ∈ w
  · rw [if_pos h, if_pos (m.mpr h), e]
  · rw [if_neg h, if_neg (fun z => h (m.mp z)), dbyF_scaled hc hS]
/-! ### noughts between -/
def spots : Nat → List Bool → List Int
  | _, [] => []
  | k, true :: p => (k : Int) :: spots (k + 1) p
  | k, false :: p => spots (k + 1) p
theorem spots_app : ∀ (p q : List Bool) (k : Nat), spots k (p ++ q) = spots k p ++ spots (k + p.length) q
  | [], q, k => by simp [spots]
  | true :: p, q, k => by
    show (k : Int) :: spots (k + 1) (p ++ q) = (k : Int) :: (spots (k + 1) p ++ _)
    rw [spots_app p q (k + 1), List.length_cons, show k + 1 + p.length = k + (p.length + 1) by omega]
  | false :: p, q, k => by
    show spots (k + 1) (p ++ q) = spots (k + 1) p ++ _
    rw [spots_app p q (k + 1), List.length_cons, show k + 1 + p.length = k + (p.length + 1) by omega]
theorem spots_len : ∀ (p : List Bool) (k : Nat), (spots k p).length = trues p
  | [], _ => rfl
  | true :: p, k => by
    show ((k : Int) :: spots (k + 1) p).length = _
    rw [List.length_cons, spots_len p (k + 1)]
    simp [trues]
  | false :: p, k => by
    show (spots (k + 1) p).length = _
    rw [spots_len p (k + 1)]
    simp [trues]
/-- the places, by where the weights went -/
def moved (sp : List Int) (j : Nat) (i : Int) : Int := sp.getD (i.toNat - j) 0
theorem idx_put {P : Int → Bool} (h0 : P 0 = false) : ∀ (p : List Bool) (r : List Int) (k j : Nat), trues p = r.length → idx P k (put p r) = (idx P j r).map (moved (spots k p) j)
  | [], [], _, _, _ => rfl
  | [], _ :: _, _, _, h => by simp [trues] at h
  | true :: p, [], _, _, h => by simp [trues] at h
  | true :: p, x :: r, k, j, h => by
    have ih := idx_put h0 p r (k + 1) (j + 1) (by simpa [trues] using h)
    have sh : (idx P (j + 1) r).map (moved (spots (k + 1) p) (j + 1)) = (idx P (j + 1) r).map (moved (spots k (true :: p)) j) := by
      refine List.map_congr_left fun i hi => ?_
      have b := idx_mem r (j + 1) i hi
      show (spots (k + 1) p).getD (i.toNat - (j + 1)) 0 = ((k : Int) :: spots (k + 1) p).getD (i.toNat - j) 0
      rw [show i.toNat - j = (i.toNat - (j + 1)) + 1 by omega]
      rfl
    show (if P x = true then (k : Int) :: idx P (k + 1) (put p r) else idx P (k + 1) (put p r)) = (if P x = true then (j : Int) :: idx P (j + 1) r else idx P (j + 1) r).map _
    rw [ih, sh]
    split
    · rw [List.map_cons]
      congr 1
      show (k : Int) = ((k : Int) :: spots (k + 1) p).getD ((j : Int).toNat - j) 0
      rw [show (j : Int).toNat - j = 0 by omega]
      rfl
    · rfl
  | false :: p, r, k, j, h => by
    have ih := idx_put h0 p r (k + 1) j (by simpa [trues] using h)
    show (if P 0 = true then (k : Int) :: idx P (k + 1) (put p r) else idx P (k + 1) (put p r)) = _
    rw [h0, if_neg Bool.false_ne_true, ih]
    rfl
def Out.led (sp : List Int) : Out → Out
  | .drawn x l => .drawn (moved sp 0 x) l
  | .opened x y => .opened x y
theorem at0_map {f : Int → Int} {l : List Int} {q : Int} (h0 : 0 ≤ q) (h : q < l.length) : at0 (l.map f) q = f (at0 l q) := by
  have hq : q.toNat < l.length := by omega
  unfold at0
  rw [List.getD_eq_getElem?_getD, List.getD_eq_getElem?_getD, List.getElem?_map, List.getElem?_eq_getElem hq]
  rfl
theorem dbyF_put {S : Int} (hS : 0 < S) (p : List Bool) : ∀ (bs : List Int) (r : List Int) (q lv : Int), (∀ b ∈ bs, 0 ≤ b) → 0 ≤ q → trues p = r.length → dbyF S (put p r) q lv bs = (dbyF S r q lv bs).led (spots 0 p)
  | [], r, q, lv, _, _, h => by
    show Out.opened ((put p r).sum / S) q = .opened (r.sum / S) q
    rw [put_sum p r h]
  | b :: bs, r, q, lv, hb, hq, h => by
    have b0 := hb b List.mem_cons_self
    have big0 : big S 0 = false := by unfold big; exact decide_eq_false (by omega)
    have e := idx_put big0 p r 0 0 h
    have ed : dbl S (put p r) = put p (dbl S r) := put_map (fun x => 2 * x % S) (by simp) p r
    show (if 2 * q + b < (idx (big S) 0 (put p r)).length then Out.drawn (at0 (idx (big S) 0 (put p r)) (2 * q + b)) (lv + 1) else dbyF S (dbl S (put p r)) (2 * q + b - (idx (big S) 0 (put p r)).length) (lv + 1) bs) = (if 2 * q + b < (idx (big S) 0 r).length then Out.drawn (at0 (idx (big S) 0 r) (2 * q + b)) (lv + 1) else dbyF S (dbl S r) (2 * q + b - (idx (big S) 0 r).length) (lv + 1) bs).led _
    rw [e, ed, List.length_map]
    by_cases hl : 2 * q + b < (idx (big S) 0 r).length
    · rw [if_pos hl, if_pos hl, at0_map (by omega) hl]
      rfl
    · rw [if_neg hl, if_neg hl]
      exact dbyF_put hS p bs _ _ _ (fun x hx => hb x (List.mem_cons_of_mem _ hx)) (by omega) (by rw [h]; simp [dbl])
theorem put_has : ∀ (p : List Bool) (r : List Int) (x : Int), x ≠ 0 → trues p = r.length → (x ∈ put p r ↔ x ∈ r)
  | [], [], _, _, _ => by simp [put]
  | [], _ :: _, _, _, h => by simp [trues] at h
  | true :: p, [], _, _, h => by simp [trues] at h
  | true :: p, y :: r, x, hx, h => by
    show x ∈ y :: put p r ↔ _
    rw [List.mem_cons, List.mem_cons, put_has p r x hx (by simpa [trues] using h)]
  | false :: p, r, x, hx, h => by
    show x ∈ (0 : Int) :: put p r ↔ _
    rw [List.mem_cons, put_has p r x hx (by simpa [trues] using h)]
    simp [hx]
theorem dby_put {S : Int} (hS : 0 < S) (p : List Bool) (w bs : List Int) (hb : ∀ b ∈ bs, 0 ≤ b) (h : trues p = w.length) : dby S (put p w) bs = (dby S w bs).led (spots 0 p) := by
  have m := put_has p w S (by omega) h
  unfold dby
  by_cases hs : S ∈ w
  · have e := idx_put (P := isS S) (by unfold isS; exact decide_eq_false (by omega)) p w 0 0 h
    have pos := idx_pos w 0 (P := isS S) ⟨S, hs, by unfold isS; simp⟩
    rw [if_pos hs, if_pos (m.mpr hs), e, at0_map (Int.le_refl 0) (by omega)]
    rfl
  · rw [if_neg hs, if_neg (fun z => hs (m.mp z)), dbyF_put hS p bs w 0 0 hb (Int.le_refl 0) h]
/-! ### alike -/
theorem idx_all {P : Int → Bool} {x : Int} (h : P x = true) : ∀ (n i : Nat), idx P i (List.replicate n x) = (List.range' i n).map fun j : Nat => (j : Int)
  | 0, _ => rfl
  | n + 1, i => by
    show (if P x = true then (i : Int) :: idx P (i + 1) (List.replicate n x) else _) = _
    rw [if_pos h, idx_all h n (i + 1)]
    rfl
theorem at0_all {n : Nat} {q : Int} (h0 : 0 ≤ q) (h : q < n) : at0 ((List.range' 0 n).map fun j : Nat => (j : Int)) q = q := by
  have hq : q.toNat < n := by omega
  unfold at0
  rw [List.getD_eq_getElem?_getD, List.getElem?_map, List.getElem?_range' hq]
  simp
  omega
theorem dbyF_alike {n : Nat} {W : Int} (hn : 1 < n) (hW : 0 < W) : ∀ (bs : List Int) (ps p lv : Int), (∀ b ∈ bs, 0 ≤ b) → 0 ≤ p → 0 ≤ ps → ps < n → dbyF (n * W) (List.replicate n (W * ps)) p lv bs = drawF n ps p lv bs
  | [], ps, p, lv, _, _, _, _ => by
    show Out.opened ((List.replicate n (W * ps)).sum / (n * W)) p = .opened ps p
    rw [sum_replicate, ← Int.mul_assoc, Int.mul_ediv_cancel_left _ (Int.ne_of_gt (Int.mul_pos (by omega) hW))]
  | b :: bs, ps, p, lv, hb, hp, h0, h1 => by
    have b0 := hb b List.mem_cons_self
    have ed : dbl (n * W) (List.replicate n (W * ps)) = List.replicate n (W * (2 * ps % n)) := by
      unfold dbl
      rw [List.map_replicate]
      congr 1
      rw [Int.mul_left_comm, Int.mul_comm (n : Int) W, mul_emod_both hW]
    have bg : big (n * W) (W * ps) = decide ((n : Int) ≤ 2 * ps) := by
      unfold big
      rw [Int.mul_left_comm, Int.mul_comm (n : Int) W]
      exact decide_eq_decide.mpr ⟨fun h => Int.le_of_mul_le_mul_left h hW, fun h => Int.mul_le_mul_of_nonneg_left h (by omega)⟩
    show (if 2 * p + b < (idx (big (n * W)) 0 (List.replicate n (W * ps))).length then Out.drawn (at0 (idx (big (n * W)) 0 (List.replicate n (W * ps))) (2 * p + b)) (lv + 1) else dbyF (n * W) (dbl (n * W) (List.replicate n (W * ps))) (2 * p + b - (idx (big (n * W)) 0 (List.replicate n (W * ps))).length) (lv + 1) bs) = (if (n : Int) ≤ 2 * ps then (if 2 * p + b < n then .drawn (2 * p + b) (lv + 1) else drawF n (2 * ps - n) (2 * p + b - n) (lv + 1) bs) else drawF n (2 * ps) (2 * p + b) (lv + 1) bs)
    rw [ed]
    by_cases hl : (n : Int) ≤ 2 * ps
    · have e := idx_all (P := big (n * W)) (x := W * ps) (by rw [bg]; exact decide_eq_true hl) n 0
      have m : 2 * ps % (n : Int) = 2 * ps - n := by
        rw [show 2 * ps = (2 * ps - n) + n * 1 by omega, Int.add_mul_emod_self_left]
        have : (2 * ps - n + n * 1 - (n : Int)) = 2 * ps - n := by omega
        rw [this]
        exact Int.emod_eq_of_lt (by omega) (by omega)
      rw [if_pos hl, e, List.length_map, List.length_range', m]
      by_cases h2 : 2 * p + b < n
      · rw [if_pos h2, if_pos h2, at0_all (by omega) h2]
      · rw [if_neg h2, if_neg h2, dbyF_alike hn hW bs _ _ _ (fun x hx => hb x (List.mem_cons_of_mem _ hx)) (by omega) (by omega) (by omega)]
    · have e : idx (big (n * W)) 0 (List.replicate n (W * ps)) = [] := idx_none _ 0 fun x hx => by
        rw [List.eq_of_mem_replicate hx, bg]
        exact decide_eq_false hl
      rw [if_neg hl, e, List.length_nil, Int.emod_eq_of_lt (by omega) (by omega), if_neg (by omega)]
      rw [show 2 * p + b - ((0 : Nat) : Int) = 2 * p + b by omega]
      exact dbyF_alike hn hW bs _ _ _ (fun x hx => hb x (List.mem_cons_of_mem _ hx)) (by omega) (by omega) (by omega)
theorem dby_alike {n : Nat} {W : Int} (hn : 1 ≤ n) (hW : 0 < W) (bs : List Int) (hb : ∀ b ∈ bs, 0 ≤ b) : dby (n * W) (List.replicate n W) bs = due n bs := by
  by_cases h1 : n = 1
  · subst h1
    have e1 : ((1 : Nat) : Int) = 1 := rfl
    rw [e1, Int.one_mul, due_one]
    unfold dby
    rw [if_pos (by simp)]
    have : idx (isS W) 0 (List.replicate 1 W) = [0] := by
      show (if isS W W = true then ((0 : Nat) : Int) :: idx (isS W) 1 [] else idx (isS W) 1 []) = [0]
      rw [if_pos (by unfold isS; simp)]
      rfl
    rw [this]
    rfl
  · have hn2 : 1 < n := by omega
    have ns : (n : Int) * W ∉ List.replicate n W := fun z => by
      have e := List.eq_of_mem_replicate z
      have : 2 * W ≤ (n : Int) * W := Int.mul_le_mul_of_nonneg_right (by omega) (by omega)
      omega
    unfold dby
    rw [if_neg ns, due_drawF (by omega) bs hb]
    have z := dbyF_alike hn2 hW bs 1 0 0 hb (Int.le_refl 0) (by omega) (by omega)
    rwa [Int.mul_one] at z
end SG

/-! How great what is drawn can be. -/
namespace SG
theorem sum_le {B : Int} : ∀ (r : List Int), (∀ x ∈ r, 0 ≤ x ∧ x ≤ B) → r.sum ≤ r.length * B
  | [], _ => by simp
  | x :: r, h => by
    have a := h x List.mem_cons_self
    have z := sum_le r fun y hy => h y (List.mem_cons_of_mem _ hy)
    rw [List.sum_cons, List.length_cons, Int.natCast_succ, Int.add_mul, Int.one_mul]
    omega
theorem dbl_in {S : Int} (hS : 0 < S) (r : List Int) : ∀ x ∈ dbl S r, 0 ≤ x ∧ x ≤ S := by
  intro x hx
  obtain ⟨y, _, rfl⟩ := List.mem_map.mp hx
  exact ⟨Int.emod_nonneg _ (by omega), Int.le_of_lt (Int.emod_lt_of_pos _ hS)⟩
theorem open_small {S : Int} (hS : 0 < S) {r : List Int} (h : ∀ x ∈ r, 0 ≤ x ∧ x ≤ S) : (r.sum / S).natAbs ≤ r.length := by
  have a := sum_nn r fun x hx => (h x hx).1
  have b := sum_le r h
  have d0 := Int.ediv_nonneg a (Int.le_of_lt hS)
  have d1 : r.sum / S ≤ r.length := by
    refine Int.ediv_le_of_le_mul hS b
  omega
theorem dbyF_small {S : Int} (hS : 0 < S) {n : Nat} : ∀ (bs : List Int) (r : List Int) (p lv : Int) (B : Nat), (∀ b ∈ bs, 0 ≤ b ∧ b ≤ 1) → (∀ x ∈ r, 0 ≤ x ∧ x ≤ S) → r.length = n → 0 ≤ p → p ≤ B → 0 ≤ lv → lv + bs.length ≤ B → n ≤ B → 1 ≤ B → (dbyF S r p lv bs).small (4 ^ (bs.length + 1) * B)
  | [], r, p, lv, B, hb, hr, hn, h0, h1, h2, h3, h4, h5 => by
    have o := open_small hS hr
    show (r.sum / S).natAbs ≤ 4 ^ 1 * B ∧ p.natAbs ≤ 4 ^ 1 * B
    omega
  | b :: bs, r, p, lv, B, hb, hr, hn, h0, h1, h2, h3, h4, h5 => by
    have b0 := hb b List.mem_cons_self
    have big : 4 * B ≤ 4 ^ (bs.length + 1 + 1) * B := by
      rw [Nat.pow_succ 4 (bs.length + 1), Nat.mul_assoc]
      exact Nat.le_mul_of_pos_left _ (Nat.pow_pos (by decide))
    rw [List.length_cons] at h3
    show Out.small _ (if 2 * p + b < (idx (SG.big S) 0 r).length then Out.drawn (at0 (idx (SG.big S) 0 r) (2 * p + b)) (lv + 1) else dbyF S (dbl S r) (2 * p + b - (idx (SG.big S) 0 r).length) (lv + 1) bs)
    rw [List.length_cons]
    split
    · rename_i hl
      have m := idx_mem r 0 _ (at0_mem (l := idx (SG.big S) 0 r) (q := 2 * p + b) (by omega) hl)
      exact ⟨by omega, by omega⟩
    · have z := dbyF_small hS (n := n) bs (dbl S r) (2 * p + b - (idx (SG.big S) 0 r).length) (lv + 1) (4 * B) (fun x hx => hb x (List.mem_cons_of_mem _ hx)) (dbl_in hS r) (by simp [dbl, hn]) (by omega) (by omega) (by omega) (by omega) (by omega) (by omega)
      rw [Nat.pow_succ 4 (bs.length + 1), Nat.mul_assoc]
      exact z
theorem dby_small {S : Int} (hS : 0 < S) {w bs : List Int} (hw : ∀ x ∈ w, 0 ≤ x ∧ x ≤ S) (hl : w.length ≤ 400) (hb : ∀ b ∈ bs, 0 ≤ b ∧ b ≤ 1) (hbl : bs.length ≤ 400) : (dby S w bs).small (4 ^ 401 * 400) := by
  unfold dby
  by_cases h : S ∈ w
  · rw [if_pos h]
    have pos := idx_pos w 0 (P := isS S) ⟨S, h, by unfold isS; simp⟩
    have m := idx_mem w 0 _ (at0_mem (l := idx (isS S) 0 w) (q := 0) (Int.le_refl 0) (by omega))
    have q : 400 ≤ 4 ^ 401 * 400 := Nat.le_mul_of_pos_left _ (Nat.pow_pos (by decide))
    exact ⟨by omega, by show (0 : Int).natAbs ≤ _; exact Nat.zero_le _⟩
  · rw [if_neg h]
    have z := dbyF_small hS bs w 0 0 400 hb hw rfl (Int.le_refl 0) (by decide) (Int.le_refl 0) (by omega) hl (by decide)
    have le : 4 ^ (bs.length + 1) * 400 ≤ 4 ^ 401 * 400 := Nat.mul_le_mul_right _ (Nat.pow_le_pow_right (by decide) (by omega))
    cases e : dbyF S w 0 0 bs with
    | drawn x y => rw [e] at z; exact ⟨Nat.le_trans z.1 le, Nat.le_trans z.2 le⟩
    | opened x y => rw [e] at z; exact ⟨Nat.le_trans z.1 le, Nat.le_trans z.2 le⟩
end SG

/-! Means by other weights. -/
namespace SG
def openO (S : Int) (w : List Int) (k : Nat) : Int := (restsAt S w k).sum / S
def pow2 (m : Int) (k : Nat) : Int := 2 ^ k % m
theorem pow2_zero (m : Int) : pow2 m 0 = 1 % m := rfl
theorem pow2_succ (m : Int) (k : Nat) : pow2 m (k + 1) = 2 * pow2 m k % m := by
  unfold pow2
  rw [Int.pow_succ, Int.mul_comm, Int.mul_emod 2 (2 ^ k % m), Int.emod_emod, ← Int.mul_emod]
theorem orb_pow2 (m : Int) : ∀ k, orb (fun x => 2 * x % m) (1 % m) k = pow2 m k
  | 0 => rfl
  | k + 1 => by
    rw [pow2_succ, ← orb_pow2 m k]
    rfl
theorem round_scaled {c S : Int} (hc : 0 < c) (w : List Int) {i n : Nat} (h : IsRound (restsAt S w) i n) : IsRound (restsAt (c * S) (w.map (c * ·))) i n :=
  h.map fun a b => by rw [rests_scaled hc, rests_scaled hc]; exact map_inj_list hc _ _
theorem open_scaled {c S : Int} (hc : 0 < c) (w : List Int) : openO (c * S) (w.map (c * ·)) = openO S w := by
  funext k
  unfold openO
  rw [rests_scaled hc, sum_scaled, Int.mul_ediv_mul_of_pos _ _ hc]
theorem rests_len (S : Int) (w : List Int) (k : Nat) : (restsAt S w k).length = w.length := by simp [restsAt]
theorem round_put {S : Int} {p : List Bool} {w : List Int} (hp : trues p = w.length) {i n : Nat} (h : IsRound (restsAt S w) i n) : IsRound (restsAt S (put p w)) i n :=
  h.map fun a b => by
    rw [rests_put, rests_put]
    exact ⟨fun e => put_inj p _ _ (by rw [rests_len]; exact hp) (by rw [rests_len]; exact hp) e, fun e => by rw [e]⟩
theorem open_put {S : Int} {p : List Bool} {w : List Int} (hp : trues p = w.length) : openO S (put p w) = openO S w := by
  funext k
  unfold openO
  rw [rests_put, put_sum p _ (by rw [rests_len]; exact hp)]
theorem round_alike {m : Nat} {W : Int} (hm : 1 ≤ m) (hW : 0 < W) {i n : Nat} (h : IsRound (pow2 m) i n) : IsRound (restsAt (m * W) (List.replicate m W)) i n :=
  h.map fun a b => by
    rw [rests_alike hW, rests_alike hW]
    constructor
    · intro e
      obtain ⟨j, rfl⟩ : ∃ j, m = j + 1 := ⟨m - 1, by omega⟩
      rw [List.replicate_succ, List.replicate_succ] at e
      injection e with e1 e2
      exact Int.eq_of_mul_eq_mul_left (by omega) e1
    · intro e
      show List.replicate m (W * pow2 m a) = List.replicate m (W * pow2 m b)
      rw [e]
theorem open_alike {m : Nat} {W : Int} (hm : 1 ≤ m) (hW : 0 < W) : openO (m * W) (List.replicate m W) = pow2 m := by
  funext k
  unfold openO
  rw [rests_alike hW, sum_replicate, ← Int.mul_assoc, Int.mul_ediv_cancel_left _ (Int.ne_of_gt (Int.mul_pos (by omega) hW))]
  rfl
theorem rests_in {S : Int} (hS : 0 < S) (w : List Int) (k : Nat) : ∀ x ∈ restsAt S w k, 0 ≤ x ∧ x ≤ S := by
  intro x hx
  obtain ⟨y, _, rfl⟩ := List.mem_map.mp hx
  exact ⟨Int.emod_nonneg _ (by omega), Int.le_of_lt (Int.emod_lt_of_pos _ hS)⟩
theorem open_in {S : Int} (hS : 0 < S) (w : List Int) (k : Nat) : 0 ≤ openO S w k ∧ openO S w k ≤ w.length := by
  have h := rests_in hS w k
  have a := sum_nn _ fun x hx => (h x hx).1
  have b := sum_le _ h
  rw [rests_len] at b
  exact ⟨Int.ediv_nonneg a (Int.le_of_lt hS), Int.ediv_le_of_le_mul hS b⟩
theorem pow2_in {m : Int} (hm : 0 < m) (k : Nat) : 0 ≤ pow2 m k ∧ pow2 m k ≤ m := ⟨Int.emod_nonneg _ (by omega), Int.le_of_lt (Int.emod_lt_of_pos _ hm)⟩
/-- what the mean's parts are at most -/
theorem top_in {o : Nat → Int} {B : Int} {i n : Nat} (ho : ∀ k, 0 ≤ o k ∧ o k ≤ B) (hB : 0 ≤ B) (hB2 : B ≤ 1000) (hi : i < n) (hn : n ≤ 400) :
    0 ≤ weighed ((opensTo o n).take i) ∧ weighed ((opensTo o n).take i) ≤ 2 ^ 400 * 1000 ∧ 0 ≤ weighed ((opensTo o n).drop i) ∧ weighed ((opensTo o n).drop i) ≤ 2 ^ 400 * 1000 := by
  have mem : ∀ x ∈ opensTo o n, 0 ≤ x ∧ x ≤ 1000 := by
    intro x hx
    obtain ⟨k, _, rfl⟩ := List.mem_map.mp hx
    have := ho k
    omega
  have l : (opensTo o n).length = n := by simp [opensTo]
  have a := weighed_le (N := 400) (fun x hx => mem x (List.mem_of_mem_take hx)) (by decide) (l := (opensTo o n).take i) (by rw [List.length_take]; omega)
  have b := weighed_le (N := 400) (fun x hx => mem x (List.mem_of_mem_drop hx)) (by decide) (l := (opensTo o n).drop i) (by rw [List.length_drop]; omega)
  exact ⟨a.1, a.2, b.1, b.2⟩
theorem pow_le400 {k : Nat} (h : k ≤ 400) : (1 : Int) ≤ 2 ^ k ∧ (2 : Int) ^ k ≤ 2 ^ 400 := by
  have p : (0 : Int) < 2 ^ k := Int.pow_pos (by decide)
  have q : (2 : Nat) ^ k ≤ 2 ^ 400 := Nat.pow_le_pow_right (by decide) h
  exact ⟨by omega, by exact_mod_cast q⟩
end SG

/-! A lambda of one parameter, handed to a def: what it does, and the call of a def with it. -/
namespace SG
open PySem PySem.Spec PyProof.Rows L2
section
variable {pr : Program} {wo : World} {K : PySem.W.Frag} {mg : Str → Option Value} {ba : Heap}
theorem cells_later {cl : List (Str × Addr)} {fr : List Str} {ws : List (Option V)} {fs : List Addr} {H HZ : Hp} {h h' : Heap} (C : NdefX.CellsAt cl fr ws h H) (un : Un fs [] H HZ h h') : NdefX.CellsAt cl fr ws h' HZ := by
  have cellK : ∀ {c : Addr} {v : Option Value}, H c = none → h.IsCell c v → h'.IsCell c v := by
    rintro c v n ⟨o, ho, hd⟩
    obtain ⟨sl, q⟩ := un.any ho n (by simp)
    exact ⟨_, q, hd⟩
  refine ⟨C.len, fun y c e => ?_, C.inj, fun i y e => ?_⟩
  · obtain ⟨n, v, z⟩ := C.all y c e
    refine ⟨?_, v, cellK n z⟩
    obtain ⟨o, ho, hd⟩ := z
    exact un.free c o ho n (by simp)
  · obtain ⟨c, e1, q⟩ := C.has i y e
    refine ⟨c, e1, fun v hv => ?_⟩
    obtain ⟨u, r, z⟩ := q v hv
    exact ⟨u, r, cellK (C.all _ _ e1).1 z⟩
/-- a lambda's text -/
abbrev lamF (q : Str) (params : Arguments) (scope : Scope) (cl : List (Str × Addr)) (c : Addr) : NdefX.NF := ⟨"<lambda>", q, params, [], scope, cl, c⟩
theorem lam_go {q : Str} {params : Arguments} {body : Expr} {scope : Scope} {cl : List (Str × Addr)} {pm ctv : Value} {f c' : Addr} {od : Option Addr} {sl : Array (Option Value)} {N ps fr : List Str} {B : Around} {outer : List Env} {st : Shared} {HZ : Hp} {us : List Value} {vs : List V} {ws : List (Option V)} {R : VK} {Ex : XK} {k : Nat} {te : TE}
    (ho : st.heap.get? f = some { cls := .type "function", dict := od, data := .func (PySem.W.kla_fn "<lambda>" q params body scope cl pm (.ref c') ctv), slots := sl })
    (hc : HZ c' = some (LamX.CodeO c' q)) (S : NdefX.NScope N ps fr scope) (hb : bindArgs (PySem.W.kla_fn "<lambda>" q params body scope cl pm (.ref c') ctv) ⟨us, []⟩ = pure (ps.zip us))
    (hr : Room (k + 1) B) (e0 : Env0 pr wo K mg ba B outer st HZ) (C : NdefX.CellsAt cl fr ws st.heap HZ) (hl : vs.length = ps.length) (r : Vals vs us)
    (hbody : Room k (B.deeper (NdefX.envF (lamF q params scope cl c') f st.heap.objs.size)) → PE (NdefX.ncx CX0 pr wo K mg ba N (lamF q params scope cl c') f B outer st HZ Ex) body te) (hq : te (NdefX.startF N vs ws) HZ R) :
    codeAny (model pr wo) B (.call (.ref f) ⟨us, []⟩) (CR CX0 outer pr wo HZ st R Ex) st := by
  have lim := e0.mod.nolimit.keeps fun b o e => (e0.bs b o e).1
  refine PySem.W.kla_callFunE hr.depth ho rfl S.co S.gen rfl (NdefX.codeO_at e0.hok hc) ?_
  rw [hb]
  refine wpAny_pure (wpAny_newFunctionEnv S.nocell (fun x hy => S.par x.1 (List.of_mem_zip (by simpa using hy)).1) (fun h₁ hns hsb => ⟨lim.fresh _ hsb, ?_⟩) S.kind)
  have kp : ∀ (b : Addr) (o : Obj), st.heap.get? b = some o → h₁.get? b = some o := fun b o e => hsb.extBut b o (Nat.ne_of_lt (Heap.lt_size e)) (Heap.get?_push_of_some _ e)
  have I := NdefX.inv_startN (CX := CX0) (E := Ex) (F := lamF q params scope cl c') (f := f) (tk := st.toks + (ps.zip us).length) S hr.hd e0 hl r C hns kp
  have z := (hbody (hr.deeper _)).run [] _ _ _ R I hq
  refine PySem.W.kla_codeExpr (wpAny_mono z (fun u s2 hs => ?_) fun e s2 hs => hs)
  obtain ⟨v, H2, J, r1, q⟩ := hs
  exact ⟨v, H2, J.os, J.bare, J.base, J.hok, r1, q⟩
/-- what a function that was passed does, from the state (st, Hx) on -/
structure FAct (pr : Program) (wo : World) (K : PySem.W.Frag) (mg : Str → Option Value) (ba : Heap) (k : Nat) (fs : List Addr) (st : Shared) (Hx : Hp) (f : Addr) (spf : V → Hp → VK → Prop) : Prop where
  free : Hx f = none
  out : f ∉ fs
  fn : PySem.W.FnAt f st.heap
  go : ∀ (B : Around) (outer : List Env) (s2 : Shared) (HZ : Hp) (u : Value) (x : V) (R : VK), B.guards = some [] → Room k B → Env0 pr wo K mg ba B outer s2 HZ → Un fs [] Hx HZ st.heap s2.heap → Same Hx HZ → RelV x u → spf x HZ R →
    codeAny (model pr wo) B (.call (.ref f) ⟨[u], []⟩) (CR CX0 outer pr wo HZ s2 R E0) s2
/-- the promise of a def whose second argument is a function -/
def HFn (pr : Program) (wo : World) (K : PySem.W.Frag) (mg : Str → Option Value) (ba : Heap) (k : Nat) (g : Addr) (spg : (V → Hp → VK → Prop) → V → Hp → VK → Prop) : Prop :=
  ∀ (B : Around) (fr : List Env) (st : Shared) (Hx : Hp) (u : Value) (x : V) (f : Addr) (spf : V → Hp → VK → Prop) (R : VK), B.guards = some [] → Room (k + 1) B → Env0 pr wo K mg ba B fr st Hx → RelV x u →
    FAct pr wo K mg ba k (frs fr) st Hx f spf → spg spf x Hx R → codeAny (model pr wo) B (.call (.ref g) ⟨[u, .ref f], []⟩) (CR CX0 fr pr wo Hx st R E0) st
end
section
variable {X : Cx} {x : Str} {p pos lpos : Pos} {e : Expr}
/-- f(e, lambda a: ..) -/
def tLamF (T : List (Addr × Str)) (te : TE) (spg : (V → Hp → VK → Prop) → V → Hp → VK → Prop) (tb : TE) (N : List Str) (js : List Nat) : TE := fun σ H Q => te σ H fun x0 H1 => LamX.Tabs T H1 ∧ ∀ H2, LamX.ExtN H1 H2 → LamX.Tabs T H2 →
  spg (fun y HZ R => tb (NdefX.startF N [y] (js.map (NdefX.slotAt σ))) HZ R) x0 H2 Q
theorem pe_lamF {g c P : Addr} {T : List (Addr × Str)} {te tb : TE} {spg : (V → Hp → VK → Prop) → V → Hp → VK → Prop} {k : Nat} {N fr : List Str} {a : Str} {js : List Nat} {params : Arguments} {body : Expr} {scope : Scope}
    (G : HFn X.prog X.w X.K X.mg X.base (k + 1) g spg) (hgu : X.A.guards = some []) (hr : Room (k + 2) X.A) (hg : Gl X x) (hm : X.mg x = some (.ref g)) (hk : PySem.W.keepIn X.K (.ref g) = true)
    (he : PE X e te) (TB : LamX.TabB X.base X.mg c P) (hcode : X.env.code = .ref c) (hT : (P, X.env.qual ++ "<lambda>") ∈ T) (hT1 : ∀ p ∈ T, p.1 = P → p.2 = X.env.qual ++ "<lambda>")
    (hdf : defaultsOf params X.env = ([], [])) (S : NdefX.NScope N [a] fr scope) (hcap : NdefX.Caps X (cloFrom X.env.cells scope.names []) fr js)
    (hfree : ∀ y ∈ scope.names, y.2 = NameKind.free → ∃ c, X.env.cells.lookup y.1 = some c)
    (hbind : ∀ (q : Str) (cl : List (Str × Addr)) (pm cv ctv u : Value), bindArgs (PySem.W.kla_fn "<lambda>" q params body scope cl pm cv ctv) ⟨[u], []⟩ = pure [(a, u)])
    (hbody : ∀ (B : Around) (outer : List Env) (st : Shared) (HZ : Hp) (f c' : Addr), (B.deeper (NdefX.envF (lamF (X.env.qual ++ "<lambda>") params scope (cloFrom X.env.cells scope.names []) c') f st.heap.objs.size)).guards = some [] →
      Room k (B.deeper (NdefX.envF (lamF (X.env.qual ++ "<lambda>") params scope (cloFrom X.env.cells scope.names []) c') f st.heap.objs.size)) →
      PE (NdefX.ncx CX0 X.prog X.w X.K X.mg X.base N (lamF (X.env.qual ++ "<lambda>") params scope (cloFrom X.env.cells scope.names []) c') f B outer st HZ E0) body tb)
    (hdb : (x == ("__debug__" : Str)) = false := by decide) (hs1 : starEach (e :: [.Lambda params body scope lpos]) X.env = (false, eval e X.env) :: starEach [.Lambda params body scope lpos] X.env := by rfl)
    (hs2 : starEach [.Lambda params body scope lpos] X.env = (false, eval (.Lambda params body scope lpos) X.env) :: starEach [] X.env := by rfl)
    (hpl : (backTo pos (starEach [.Lambda params body scope lpos] X.env)).any (·.1) = false := by rfl) :
    PE X (.Call (.Name x p) [e, .Lambda params body scope lpos] [] pos) (tLamF T te spg tb N js) := by
  refine ⟨fun pins st σ Hx R I h => wpAny_Call_Name_kw (ld_glob I hg hm ?_ hdb)⟩
  refine PySem.W.callWith_K (h₀ := X.base) I.ok.mod.kin hk ?_ hs1 hpl
  rw [hs1, hs2]
  refine PySem.Calls.spliced_cons (thn (he.run pins st σ Hx _ I h) fun u s1 hh => ?_)
  obtain ⟨x0, H1, I1, r1, tT, q⟩ := hh
  refine PySem.Calls.spliced_cons (LamX.lam_make2 I1 TB hcode hT hT1 tT hdf hfree fun f c' pm ctv H2 s2 I2 ext t2 ho hf hfr hc => ?_)
  refine PySem.Calls.spliced_nil ⟨I2.kIn, ?_⟩
  have act : FAct X.prog X.w X.K X.mg X.base (k + 1) (frs X.stack) s2 H2 f (fun y HZ R => tb (NdefX.startF N [y] (js.map (NdefX.slotAt σ))) HZ R) := by
    refine ⟨hf, hfr, ⟨_, _, _, _, ho⟩, fun B outer s3 HZ u2 y R2 hgB hrB e0 un sm ry hq => ?_⟩
    have ho3 := un.keep f _ ho hf hfr (by simp)
    exact lam_go ho3 (sm _ _ hc) S (hbind _ _ _ _ _ _) hrB e0 (cells_later (NdefX.cells_of I2 hcap) un) rfl (.cons ry .nil) (fun hrr => hbody B outer s3 HZ f c' hgB hrr) hq
  refine wpAny_call (codeAny_mono (G X.A X.stack s2 H2 u x0 f _ R hgu hr I2.env0 r1 act (q H2 ext t2)) fun r s3 hq => ?_)
  have z := end_of (cx := CX0) pass0 I2 hq
  cases r with
  | error e => exact z
  | ok fl => cases fl <;> exact z
/-- f(e), f the function that was passed -/
theorem pe_act1 {i k : Nat} {f : Addr} {spf : V → Hp → VK → Prop} {te : TE} {p1 p2 : Pos} (act : FAct X.prog X.w X.K X.mg X.base k X.fs X.s_0 X.H_0 f spf) (hex : X.ex = []) (hgu : X.A.guards = some []) (hr : Room k X.A) (hN : X.N[i]? = some x) (hv : Vis X.env.scope x) (he : PE X e te)
    (hdb : (x == ("__debug__" : Str)) = false := by decide) (hcd : (x == ("__classdict__" : Str)) = false := by decide) (hs1 : starEach (e :: []) X.env = (false, eval e X.env) :: starEach [] X.env := by rfl) (hpl : (backTo p2 (starEach [] X.env)).any (·.1) = false := by rfl) :
    PE X (.Call (.Name x p1) [e] [] p2) (fun σ H Q => σ[i]? = some (some (.ref f)) ∧ te σ H fun y H2 => ∃ v, [y] = [v] ∧ Same X.H_0 H2 ∧ spf v H2 Q) := by
  refine ⟨fun pins st σ Hx R I h => wpAny_Call_Name_kw ?_⟩
  obtain ⟨hσ, h⟩ := h
  refine thn ((pe_var hN hv hdb hcd).run pins st σ Hx (fun v H1 => v = V.ref f ∧ H1 = Hx) I ⟨_, hσ, rfl, rfl⟩) fun u s1 hh => ?_
  obtain ⟨v, H1, I1, r1, rfl, rfl⟩ := hh
  obtain rfl : u = Value.ref f := r1
  have fnAt : ∀ {pn : List (Addr × Obj)} {τ : L2.St} {H3 : Hp} {s3 : Shared}, Inv X pn τ H3 s3 → PySem.W.FnAt f s3.heap := by
    intro pn τ H3 s3 J
    obtain ⟨a, b, c, d, q⟩ := act.fn
    exact ⟨a, b, c, d, J.base.keep f _ q act.free act.out (by rw [hex]; simp)⟩
  refine PySem.W.callWith_F (fnAt I1) ?_ hs1 hpl
  refine thn ((pa_cons he pa_nil hs1).run p2 pins s1 σ H1 (fun vs H2 => ∃ v, vs = [v] ∧ Same X.H_0 H2 ∧ spf v H2 R) I1 h) ?_
  rintro us s2 ⟨vs, H2, I2, r2, q⟩
  obtain ⟨v, rfl, sm, q⟩ : ∃ v, vs = [v] ∧ Same X.H_0 H2 ∧ spf v H2 R := q
  obtain ⟨u, rfl, ru⟩ := r2.one
  refine ⟨fnAt I2, wpAny_call (codeAny_mono (act.go X.A X.stack s2 H2 u v R hgu hr I2.env0 ?_ sm ru q) fun r s3 hq => ?_)⟩
  · have b := I2.base
    rw [hex] at b
    exact b
  have z := end_of (cx := CX0) pass0 I2 hq
  cases r with
  | error e => exact z
  | ok fl => cases fl <;> exact z
end
end SG

/-! The end of a law whose program makes lambdas: contracts that know the guards, tables of code objects. -/
namespace SG
open PySem PySem.Spec PyProof.Rows L2
section
variable {pr : Program} {wo : World} {K : PySem.W.Frag} {mg : Str → Option Value}
theorem law_gT {mb : Str → Option Value} {k : Nat} {fa a : Addr} {cs : List (Addr × Addr)} {fd : FuncData} {x : Str} {sp : Sp} {s1 : Shared} {its : List Value} {ns : List Int}
    (KX : K.In s1.heap) (hmg : s1.heap.Ns mainGlobals mg) (hmb : s1.heap.Ns builtinsNs mb) (hbb : ∀ x : Str, x ≠ "__name__" → mb x = bootBuiltins x) (hlim : s1.heap.NoLimit) (hdig : s1.heap.NoDigits) (hgen : s1.gens = #[])
    (hT : ∀ p ∈ cs, s1.heap.get? p.2 = some (PySem.W.tabObj #[])) (nT : ∀ p ∈ cs, K.lookup p.2 = none) (hC : ∀ p ∈ cs, PySem.W.CodeHd s1.heap p.1 p.2)
    (hbm : ∃ bm ob, mg "__builtins__" = some (.ref bm) ∧ bm ≠ builtinsNs ∧ s1.heap.get? bm = some ob ∧ ob.cls = .type "module" ∧ ob.dict = some builtinsNs ∧ ob.data = .plain)
    (ha : s1.heap.get? a = some { cls := .type "list", data := .seq its.toArray }) (hi : IntsAre its ns) (hl : ns.length ≤ sizeLine) (hr : Room k callerA)
    (F : ∀ ba : Heap, K.In ba → ba.Ns mainGlobals mg → ba.NoDigits → (∀ p ∈ cs, LamX.TabB ba mg p.1 p.2) → GFn pr wo K mg ba CX0 k fa fd [x] sp) (hbi : ∀ (st : Shared) (u : Value), BindsTo st fd ⟨[u], []⟩ [(x, u)])
    (hsp : ∀ Hx : Hp, (∀ p ∈ cs, Hx p.2 = some (.tbl #[])) → SqL K Hx a (ns.map V.int) → sp [.ref a] Hx (fun v _ => v = .bl true) E0) :
    codeAny (model pr wo) callerA (.call (.ref fa) ⟨[.ref a], []⟩) (fun r s2 => r = .ok (.ret (.bool true)) ∧ OldK s1.heap s2.heap ∧ s2.os = s1.os ∧ AllBare s2.gens) s1 := by
  have rv := vals_ints hi
  have tob : ∀ {b : Addr}, b ∈ cs.map (·.2) → s1.heap.get? b = some (PySem.W.tabObj #[]) := by
    intro b hb
    obtain ⟨p, hp, rfl⟩ := List.mem_map.mp hb
    exact hT p hp
  have nota : a ∉ cs.map (·.2) := fun z => by
    have q := tob z
    rw [ha] at q
    cases q
  have main : ∀ Hx : Hp, (∀ b, Hx b = none ∨ (∃ ob xs, Hx b = some (.frz ob (.lst xs))) ∨ b ∈ cs.map (·.2)) → (∀ p ∈ cs, Hx p.2 = some (.tbl #[])) → SqL K Hx a (ns.map V.int) → HOk pr wo Hx s1.heap → (∀ b, Hx b ≠ none → b = a ∨ b ∈ cs.map (·.2)) → (Hx a ≠ none → K.lookup a = none) →
      codeAny (model pr wo) callerA (.call (.ref fa) ⟨[.ref a], []⟩) (fun r s2 => r = .ok (.ret (.bool true)) ∧ OldK s1.heap s2.heap ∧ s2.os = s1.os ∧ AllBare s2.gens) s1 := by
    intro Hx hO hH hS ok one free
    have isA : ∀ {b : Addr} {u : HO}, Hx b = some u → b = a ∨ b ∈ cs.map (·.2) := fun {b u} q => one b (by rw [q]; nofun)
    have hid : ∀ {b : Addr} {o : Obj}, s1.heap.get? b = some o → Hx b = none → (hidT s1.heap Hx).get? b = some o := fun e n => hidT_get e n
    -- what is neither a list nor a table is not hidden
    have noD : ∀ {b : Addr} {o : Obj}, s1.heap.get? b = some o → (∀ (vs : Array Value) (n : Nat), o.data ≠ .seq vs n) → o.data ≠ .fields #[] → Hx b = none := by
      intro b o e h1 h2
      rcases q : Hx b with _ | u
      · rfl
      · rcases isA q with z | z
        · rw [z, ha] at e
          cases e
          exact absurd rfl (h1 _ _)
        · rw [tob z] at e
          cases e
          exact absurd rfl h2
    have nsH : ∀ {b : Addr} {m : Str → Option Value}, s1.heap.Ns b m → (hidT s1.heap Hx).Ns b m := by
      rintro b m ⟨o, es, ep, e, d, r⟩
      exact ⟨o, es, ep, hid e (noD e (fun _ _ z => by rw [d] at z; cases z) (fun z => by rw [d] at z; cases z)), d, r⟩
    have kin : K.In (hidT s1.heap Hx) := by
      intro b o e
      refine hid (KX b o e) ?_
      rcases q : Hx b with _ | u
      · rfl
      · rcases isA q with z | z
        · subst z
          rw [free (by rw [q]; nofun)] at e
          cases e
        · obtain ⟨p, hp, rfl⟩ := List.mem_map.mp z
          rw [nT p hp] at e
          cases e
    have hM : Mod K mg (hidT s1.heap Hx) := ⟨kin, nsH hmg, ⟨mb, nsH hmb, hbb⟩, by obtain ⟨mc, h1, h2⟩ := hlim; exact ⟨mc, nsH h1, h2⟩⟩
    have TB : ∀ p ∈ cs, LamX.TabB (hidT s1.heap Hx) mg p.1 p.2 := by
      intro p hp
      obtain ⟨o, vs, file, tf, flags, tg, inF, text, tt, e, r1, r2, r3, r4⟩ := hC p hp
      refine ⟨⟨o, vs, file, tf, flags, tg, inF, text, tt, hid e (noD e (fun _ _ z => by rw [r2] at z; cases z) fun z => ?_), r1, r2, r3, r4⟩, ?_, fun z => ?_⟩
      · rw [r2] at z
        cases z
        simp at r3
      · obtain ⟨bm, ob, b1, b2, b3, b4, b5, b6⟩ := hbm
        refine ⟨bm, ob, b1, b2, fun z => ?_, fun z => ?_, hid b3 (noD b3 (fun _ _ z => by rw [b6] at z; cases z) (fun z => by rw [b6] at z; cases z)), b4, b5, b6⟩
        · obtain ⟨og, es, ep, e2, d, _⟩ := hmg
          rw [z, e2] at b3
          cases b3
          rw [b6] at d
          cases d
        · rw [z, hT p hp] at b3
          cases b3
          cases b6
      · obtain ⟨og, es, ep, e2, d, _⟩ := hmg
        rw [z, hT p hp] at e2
        cases e2
        cases d
    have e0 : Env0 pr wo K mg (hidT s1.heap Hx) callerA [] s1 Hx := ⟨rfl, hM, fun b o e => of_hidT e, Nat.le_of_eq (hidT_size _ _), trivial, fun b hb => (nomatch hb), ok, .of_eq hgen⟩
    refine codeAny_mono ((F _ kin (nsH hmg) (by obtain ⟨mc, h1, h2⟩ := hdig; exact ⟨mc, nsH h1, h2⟩) TB).go callerA [] s1 Hx ⟨[.ref a], []⟩ [.ref a] [.ref a] _ _ rfl hr e0 (hbi s1 (.ref a)) (.cons rfl .nil) (hsp Hx hH hS)) fun r s2 h => ?_
    rcases r with e | fl
    · exact False.elim h
    · cases fl with
      | next => exact False.elim h
      | brk => exact False.elim h
      | cont => exact False.elim h
      | ret u =>
        obtain ⟨v, H2, os, bare, un, ok2, r2, q⟩ := h
        obtain rfl : v = .bl true := q
        obtain rfl : u = Value.bool true := r2
        have key : ∀ b o, s1.heap.get? b = some o → b ∉ cs.map (·.2) → s2.heap.get? b = some o := by
          intro b o e nb
          rcases q : Hx b with _ | u
          · exact un.keep b o e q (fun z => nomatch z) (fun z => nomatch z)
          · rcases hO b with z | ⟨ob, xs, z⟩ | z
            · rw [q] at z; cases z
            · obtain ⟨e1, _⟩ := ok b _ z
              obtain ⟨e2, _⟩ := ok2 b _ (un.frzs b ob _ z)
              rw [e] at e1
              cases e1
              exact e2
            · exact absurd z nb
        have grown : ∀ p ∈ cs, ∃ more, s2.heap.get? p.2 = some (PySem.W.tabObj more) := by
          intro p hp
          obtain ⟨more, z⟩ := un.tbls p.2 #[] (hH p hp)
          exact ⟨_, ok2 p.2 _ z⟩
        refine ⟨rfl, ⟨fun b o e => ?_, fun b o e => ?_⟩, os, bare⟩
        · by_cases hb : b ∈ cs.map (·.2)
          · obtain ⟨p, hp, rfl⟩ := List.mem_map.mp hb
            obtain ⟨more, hm⟩ := grown p hp
            have e1 := hT p hp
            rw [e] at e1
            cases e1
            exact .inr (.inl ⟨((hC p hp).tab (hT p hp)).isCodeTable, rfl, #[], more, rfl, by rw [Array.empty_append]; exact hm⟩)
          · exact .inl (key b o e hb)
        · by_cases hb : b ∈ cs.map (·.2)
          · obtain ⟨p, hp, rfl⟩ := List.mem_map.mp hb
            obtain ⟨more, hm⟩ := grown p hp
            exact ⟨_, hm⟩
          · exact ⟨o, key b o e hb⟩
  rcases hk : K.lookup a with _ | o
  · refine main (fun b => if b = a then some (.frz { cls := .type "list", data := .seq its.toArray } (.lst (ns.map V.int))) else if b ∈ cs.map (·.2) then some (.tbl #[]) else none) (fun b => ?_) (fun p hp => ?_) (.inl (.inr ⟨_, if_pos rfl⟩)) (fun b u z => ?_) (fun b z => ?_) fun _ => hk
    · by_cases hb : b = a
      · exact .inr (.inl ⟨_, _, if_pos hb⟩)
      · by_cases hc : b ∈ cs.map (·.2)
        · exact .inr (.inr hc)
        · exact .inl (by simp only [if_neg hb, if_neg hc])
    · have h1 : p.2 ∈ cs.map (·.2) := List.mem_map.mpr ⟨p, hp, rfl⟩
      have h2 : p.2 ≠ a := fun z => nota (z ▸ h1)
      simp only [if_neg h2, if_pos h1]
    · by_cases hb : b = a
      · cases (if_pos hb).symm.trans z
        subst hb
        exact ⟨ha, by rw [List.length_map]; exact hl, its, _, rv, ha⟩
      · by_cases hc : b ∈ cs.map (·.2)
        · simp only [if_neg hb, if_pos hc] at z
          cases z
          exact tob hc
        · simp only [if_neg hb, if_neg hc] at z
          cases z
    · by_cases hb : b = a
      · exact .inl hb
      · by_cases hc : b ∈ cs.map (·.2)
        · exact .inr hc
        · exact absurd (by simp only [if_neg hb, if_neg hc]) z
  · have e := KX a o hk
    rw [ha] at e
    cases e
    refine main (fun b => if b ∈ cs.map (·.2) then some (.tbl #[]) else none) (fun b => ?_) (fun p hp => if_pos (List.mem_map.mpr ⟨p, hp, rfl⟩)) (.inr ⟨_, its.toArray, _, hk, rfl, rfl, rfl, by rw [List.size_toArray, hi.length]; exact hl, by simpa using rv⟩) (fun b u z => ?_) (fun b z => ?_) fun z => absurd (if_neg nota) z
    · by_cases hc : b ∈ cs.map (·.2)
      · exact .inr (.inr hc)
      · exact .inl (if_neg hc)
    · by_cases hc : b ∈ cs.map (·.2)
      · cases (if_pos hc).symm.trans z
        exact tob hc
      · cases (if_neg hc).symm.trans z
    · by_cases hc : b ∈ cs.map (·.2)
      · exact .inr hc
      · exact absurd (if_neg hc) z
end
theorem walk_gT {l : PySem.W.OpenLaw} {n k : Nat} {q : Program} {loose : List Str} {XP : (Str → Option Value) → Heap → Prop} {d : DefRec} {K : Params → PySem.W.Frag} {as : List Addr} {he : ∀ P : Params, as = (K P).map (·.1)} {ts : List Addr} {sp : PySem.W.Frag → List (Addr × Addr) → Sp} {x : Str}
    (hn : l.most = some n) (hn2 : n ≤ sizeLine) (hdf : d.params.defaults = []) (hr : Room k callerA)
    (F : ∀ (wo : World) (mg : Str → Option Value) (fa : Addr) (h : Heap), (K wo.params).In h → h.Ns mainGlobals mg → mg d.name = some (.ref fa) →
      ∃ (fd : FuncData) (cs : List (Addr × Addr)), (∀ p ∈ cs, p.2 ∈ ts) ∧ (∀ p ∈ cs, (K wo.params).lookup p.2 = none) ∧ (∀ p ∈ cs, PySem.W.codeHdIn (K wo.params) p.1 p.2 = true) ∧ (∀ (st : Shared) (u : Value), BindsTo st fd ⟨[u], []⟩ [(x, u)]) ∧
        ∀ ba : Heap, (K wo.params).In ba → ba.Ns mainGlobals mg → ba.NoDigits → (∀ p ∈ cs, LamX.TabB ba mg p.1 p.2) → GFn l.prog wo (K wo.params) mg ba CX0 k fa fd [x] (sp (K wo.params) cs))
    (hsp : ∀ (K : PySem.W.Frag) (cs : List (Addr × Addr)) (Hx : Hp) (a : Addr) (ns : List Int), ns.length ≤ n → (∀ p ∈ cs, Hx p.2 = some (.tbl #[])) → SqL K Hx a (ns.map V.int) → sp K cs [.ref a] Hx (fun v _ => v = .bl true) E0) :
    PySem.W.WalkO q loose XP (PySem.W.kmHook K as he ts).says l.row.toRowW d [] (fun f vs => PySem.call f vs) := by
  refine Att.attach_call hn hdf fun w s₀ s₁ mg mb fa o pm cd doc a vs ns G Y ho hd hcd hmg hobj hints hlen hg => ?_
  have KX := PySem.W.km_in_of Y
  obtain ⟨fd, cs, h1, h2, h3, hb, hF⟩ := F w mg fa _ KX G.T.g hmg
  exact law_gT KX G.T.g G.T.b G.T.builtins G.T.nolimit G.T.nodigits hg (fun p hp => PySem.W.km_tabs_of Y _ (h1 p hp)) h2 (fun p hp => PySem.W.codeHd_of_K KX (h3 p hp)) G.T.bmain hobj hints (Nat.le_trans hlen hn2) hr hF hb fun Hx hH hS => hsp _ cs Hx a ns hlen hH hS
end SG

/-! A def whose second argument is a function, by its body. -/
namespace SG
open PySem PySem.Spec PyProof.Rows L2
variable {pr : Program} {wo : World} {K : PySem.W.Frag} {mg : Str → Option Value} {ba : Heap}
theorem hfun_ok {x qn : Str} {s0 : Stmt} {g : Addr} {fd : FuncData} {N ps : List Str} {k : Nat} {spg : (V → Hp → VK → Prop) → V → Hp → VK → Prop} (F : Fun K x qn s0 g fd) (S : FnScope N ps (defScope s0)) (hps : ps.length = 2) (hbd : Binds K fd ps [])
    (hb : ∀ (cdv : Value) (B : Around) (fr : List Env) (st : Shared) (Hx : Hp) (x0 : V) (f : Addr) (spf : V → Hp → VK → Prop) (R : VK), (B.deeper (envOfC qn (defScope s0) st.heap.objs.size g cdv)).guards = some [] → Room k (B.deeper (envOfC qn (defScope s0) st.heap.objs.size g cdv)) →
      FAct pr wo K mg ba k (frs fr) st Hx f spf → spg spf x0 Hx R →
      ∃ t, PSs (cxOf CX0 pr wo K mg ba N qn (defScope s0) g cdv B fr st Hx E0).nox (defBody s0) t ∧ t { nx := fun _ H2 => R .non H2, rt := R } (start N [x0, .ref f]) Hx) :
    HFn pr wo K mg ba k g spg := by
  intro B fr st Hx u x0 f spf R hgu hr e0 ru act hsp
  obtain ⟨oc, od, kV, dc, pm, an, cdv, ct, osl, rfl, lk, hcd⟩ := F.ex
  have KX : K.In st.heap := e0.mod.kin.keeps fun b o e => (e0.bs b o e).1
  have lim : st.heap.NoLimit := e0.mod.nolimit.keeps fun b o e => (e0.bs b o e).1
  have hl : ([u, Value.ref f] ++ []).length = ps.length := by rw [hps]; rfl
  have hkn : ∀ y ∈ ps.zip ([u, Value.ref f] ++ []), (defScope s0).names.lookup y.1 = some .local ∨ ((defScope s0).names.lookup y.1 = some .cell ∧ ((cellsFrom (st.heap.objs.size + 1) (defScope s0).names []).lookup y.1).isSome = true) := by
    rintro ⟨n, v⟩ hy
    rcases S.par n (List.of_mem_zip hy).1 with q | q
    · exact .inl q
    · exact .inr ⟨q, PySem.W.cellsFrom_some _ _ _ (.inl q)⟩
  refine codeAny_call_function hr.depth (KX _ _ lk) rfl S.co S.gen rfl (PySem.W.codeRec_of KX hcd) (hbd st [u, .ref f] KX hl _ _ _ _ ?_)
  refine wpAny_newFunctionEnv_cells S.kind hkn fun env he s1 x => ?_
  subst he
  refine ⟨lim.keeps x.toInCall.keep, codeAny_func ?_⟩
  obtain ⟨t, ht, hq⟩ := hb cdv B fr st Hx x0 f spf R hgu (hr.deeper _) act hsp
  have I : Inv (cxOf CX0 pr wo K mg ba N qn (defScope s0) g cdv B fr st Hx E0) [] (start N [x0, .ref f]) Hx s1 := inv_start S hr.hd e0 (by rw [hps]; rfl) (.cons ru (.cons rfl .nil)) x
  refine wpAny_mono (ht.nox.run [] s1 (start N [x0, .ref f]) Hx _ I hq) (fun fl s2 hs => ?_) fun e s2 hs => hs
  have fin : ∀ {τ : L2.St} {H2 : Hp} {v : V} {w : Value}, Inv (cxOf CX0 pr wo K mg ba N qn (defScope s0) g cdv B fr st Hx E0) [] τ H2 s2 → RelV v w → R v H2 → CE fr pr wo Hx st R w s2 :=
    fun {τ H2 v w} J r1 q => ⟨v, H2, J.os, J.bare, J.base, J.hok, r1, q⟩
  cases fl with
  | ret u => obtain ⟨v, τ, H2, J, r1, q⟩ := hs; exact fin J r1 q
  | next => obtain ⟨τ, H2, J, q⟩ := hs; exact fin (v := V.non) (w := Value.none) J rfl q
  | brk => obtain ⟨_, _, _, q⟩ := hs; exact q.elim
  | cont => obtain ⟨_, _, _, q⟩ := hs; exact q.elim
end SG

/-! A def by its body where its code's address is known; a lambda's free names looked up by themselves. -/
namespace SG
open PySem PySem.Spec PyProof.Rows L2
section
variable {pr : Program} {wo : World} {K : PySem.W.Frag} {mg : Str → Option Value} {ba : Heap}
theorem gfun_okC {x qn : Str} {s0 : Stmt} {f c : Addr} {fd : FuncData} {N ps : List Str} {k : Nat} {sp : Sp} (F : Fun K x qn s0 f fd) (hc : fd.code = .ref c) (S : FnScope N ps (defScope s0)) (len : ∀ xs Hx R Ex, sp xs Hx R Ex → xs.length = ps.length)
    (hb : ∀ (B : Around) (fr : List Env) (st : Shared) (Hx : Hp) (xs : List V) (R : VK) (Ex : XK), (B.deeper (envOfC qn (defScope s0) st.heap.objs.size f (.ref c))).guards = some [] →
      Room k (B.deeper (envOfC qn (defScope s0) st.heap.objs.size f (.ref c))) → sp xs Hx R Ex →
      ∃ t, PSs (cxOf CX0 pr wo K mg ba N qn (defScope s0) f (.ref c) B fr st Hx Ex).nox (defBody s0) t ∧ t { nx := fun _ H2 => R .non H2, rt := R } (start N xs) Hx) :
    GFn pr wo K mg ba CX0 (k + 1) f fd ps sp := by
  obtain ⟨oc, od, kV, dc, pm, an, cdv, ct, osl, rfl, lk, hcd⟩ := F.ex
  obtain rfl : cdv = .ref c := hc
  refine gfn_of lk hcd S len fun B fr st Hx xs R Ex g hr hsp => ?_
  obtain ⟨t, h, q⟩ := hb B fr st Hx xs R Ex g hr hsp
  exact ⟨t, h.nox, q⟩
end
section
variable {X : Cx} {x : Str} {p pos lpos : Pos} {e : Expr}
theorem kind_by {X : Cx} {sc : Scope} {names : List (Str × NameKind)} (h : X.env.scope = sc) (hb : names.all (fun y => !decide (y.2 = NameKind.free) || decide (sc.names.lookup y.1 = some NameKind.cell)) = true) : ∀ y ∈ names, y.2 = NameKind.free → X.env.kindOf y.1 = some .cell := by
  intro y hy e
  have z := List.all_eq_true.mp hb y hy
  rw [decide_eq_true e] at z
  have z : sc.names.lookup y.1 = some NameKind.cell := of_decide_eq_true (by simpa using z)
  rw [← h] at z
  exact z
theorem pe_lamF2 {g c P : Addr} {T : List (Addr × Str)} {te tb : TE} {spg : (V → Hp → VK → Prop) → V → Hp → VK → Prop} {k : Nat} (N fr : List Str) (a : Str) (js : List Nat) {params : Arguments} {body : Expr} {scope : Scope}
    (G : HFn X.prog X.w X.K X.mg X.base (k + 1) g spg) (hgu : X.A.guards = some []) (hr : Room (k + 2) X.A) (hg : Gl X x) (hm : X.mg x = some (.ref g)) (hk : PySem.W.keepIn X.K (.ref g) = true)
    (he : PE X e te) (TB : LamX.TabB X.base X.mg c P) (hcode : X.env.code = .ref c) (hT : (P, X.env.qual ++ "<lambda>") ∈ T) (hT1 : ∀ p ∈ T, p.1 = P → p.2 = X.env.qual ++ "<lambda>")
    (hdf : defaultsOf params X.env = ([], [])) (S : NdefX.NScope N [a] fr scope)
    (hkind : ∀ y ∈ scope.names, y.2 = NameKind.free → X.env.kindOf y.1 = some .cell) (hin : ∀ y ∈ fr, (y, NameKind.free) ∈ scope.names) (hat : js.map (fun j => X.N[j]?) = fr.map some)
    (hbind : ∀ (q : Str) (cl : List (Str × Addr)) (pm cv ctv u : Value), bindArgs (PySem.W.kla_fn "<lambda>" q params body scope cl pm cv ctv) ⟨[u], []⟩ = pure [(a, u)])
    (hbody : ∀ (B : Around) (outer : List Env) (st : Shared) (HZ : Hp) (f c' : Addr), (B.deeper (NdefX.envF (lamF (X.env.qual ++ "<lambda>") params scope (cloFrom X.env.cells scope.names []) c') f st.heap.objs.size)).guards = some [] →
      Room k (B.deeper (NdefX.envF (lamF (X.env.qual ++ "<lambda>") params scope (cloFrom X.env.cells scope.names []) c') f st.heap.objs.size)) →
      PE (NdefX.ncx CX0 X.prog X.w X.K X.mg X.base N (lamF (X.env.qual ++ "<lambda>") params scope (cloFrom X.env.cells scope.names []) c') f B outer st HZ E0) body tb)
    (hdb : (x == ("__debug__" : Str)) = false := by decide) (hs1 : starEach (e :: [.Lambda params body scope lpos]) X.env = (false, eval e X.env) :: starEach [.Lambda params body scope lpos] X.env := by rfl)
    (hs2 : starEach [.Lambda params body scope lpos] X.env = (false, eval (.Lambda params body scope lpos) X.env) :: starEach [] X.env := by rfl)
    (hpl : (backTo pos (starEach [.Lambda params body scope lpos] X.env)).any (·.1) = false := by rfl) :
    PE X (.Call (.Name x p) [e, .Lambda params body scope lpos] [] pos) (tLamF T te spg tb N js) := by
  refine ⟨fun pins st σ Hx R I h => ?_⟩
  have hfree : ∀ y ∈ scope.names, y.2 = NameKind.free → ∃ c, X.env.cells.lookup y.1 = some c := fun y hy hk2 => I.ok.has y.1 (.inl (hkind y hy hk2))
  have hcap : NdefX.Caps X (cloFrom X.env.cells scope.names []) fr js := by
    refine ⟨fun y c e => NdefX.clo_cm hfree e, fun y hy => .inl (hkind _ (hin y hy) rfl), fun y hy c e => NdefX.clo_has hfree (hin y hy) e, hat⟩
  exact (pe_lamF G hgu hr hg hm hk he TB hcode hT hT1 hdf S hcap hfree hbind hbody hdb hs1 hs2 hpl).run pins st σ Hx R I h
end
end SG

/-! What was met so far, with its number. -/
namespace SG
open PySem PySem.Spec PyProof.Rows L2
section
variable {κ : Type} [DecidableEq κ]
def metV (key : Nat → κ) (k : Nat) : List (κ × V) := (List.range k).map fun j => (key j, V.int (j : Int))
theorem metV_len (key : Nat → κ) (k : Nat) : (metV key k).length = k := by simp [metV]
theorem find_range {p : Nat → Bool} {i k : Nat} (hi : i < k) (h : p i = true) (hb : ∀ j, j < i → p j = false) : (List.range k).find? p = some i := by
  rw [List.find?_eq_some_iff_getElem]
  refine ⟨h, i, by simpa using hi, by simp, fun j hj => ?_⟩
  rw [List.getElem_range, hb j hj]
  rfl
theorem metV_some {key : Nat → κ} {k i : Nat} {x : κ} (hi : i < k) (h : key i = x) (hb : ∀ j, j < i → key j ≠ x) : valV (metV key k) x = some (.int (i : Int)) := by
  unfold valV metV
  rw [List.find?_map, find_range (p := (fun kv : κ × V => decide (kv.1 = x)) ∘ fun j => (key j, V.int (j : Int))) hi (by simpa using h) fun j hj => by simpa using hb j hj]
  rfl
theorem metV_none {key : Nat → κ} {k : Nat} {x : κ} (h : ∀ j, j < k → key j ≠ x) : valV (metV key k) x = none := by
  unfold valV metV
  rw [List.find?_map, List.find?_eq_none.mpr fun j hj => by simpa using h j (List.mem_range.mp hj)]
  rfl
theorem metV_put {key : Nat → κ} {k : Nat} (h : ∀ j, j < k → key j ≠ key k) : putK (metV key k) (key k) (.int (k : Int)) = metV key (k + 1) := by
  rw [putK_new _ (metV_none h)]
  unfold metV
  rw [List.range_succ, List.map_append]
  rfl
/-- whether a term was met: where, or nowhere -/
theorem met_cases {key : Nat → κ} {k : Nat} (hd : ∀ a b, a < b → b < k → key a ≠ key b) : (∃ i, IsRound key i k ∧ valV (metV key k) (key k) = some (.int (i : Int))) ∨ ((∀ j, j < k → key j ≠ key k) ∧ valV (metV key k) (key k) = none) := by
  by_cases h : ∃ i, i < k ∧ key i = key k
  · obtain ⟨i, hi, e⟩ := h
    exact .inl ⟨i, ⟨hi, e.symm, hd⟩, metV_some hi e fun j hj q => hd j i hj hi (q.trans e.symm)⟩
  · have n : ∀ j, j < k → key j ≠ key k := fun j hj q => h ⟨j, hj, q⟩
    exact .inr ⟨n, metV_none n⟩
theorem met_more {key : Nat → κ} {k : Nat} (hd : ∀ a b, a < b → b < k → key a ≠ key b) (n : ∀ j, j < k → key j ≠ key k) : ∀ a b, a < b → b < k + 1 → key a ≠ key b := fun a b h1 h2 => by
  rcases Nat.lt_succ_iff_lt_or_eq.mp h2 with h | rfl
  · exact hd a b h1 h
  · exact n a h1
end
end SG

namespace SG
open PySem PySem.Spec PyProof.Rows L2 TL
section
variable {P : Program} {w : World} {K : PySem.W.Frag} {mg : Str → Option Value} {base : Heap}
abbrev keyI (o : Nat → Int) : Nat → Key := fun j => Sum.inl (o j)
theorem keyI_round {o : Nat → Int} {i n : Nat} : IsRound (keyI o) i n ↔ IsRound o i n :=
  ⟨fun h => h.map (o := keyI o) fun a b => ⟨fun e => congrArg Sum.inl e, fun e => Sum.inl.inj e⟩, fun h => h.map fun a b => ⟨fun e => Sum.inl.inj e, fun e => congrArg Sum.inl e⟩⟩
def spRI (K : PySem.W.Frag) (spf : V → Hp → VK → Prop) (x0 : V) (H : Hp) (Q : VK) : Prop := ∃ (o : Nat → Int) (N : Nat), x0 = .int (o 0) ∧ N ≤ 1000 ∧ (∀ n, (∀ a b, a < b → b < n → o a ≠ o b) → n ≤ N) ∧
  (∀ (k : Nat) (HZ : Hp) (R : VK), Same H HZ → (∀ H3, Same HZ H3 → R (.int (o (k + 1))) H3) → spf (.int (o k)) HZ R) ∧
  ∀ (p l : Addr) (i n : Nat) (H2 : Hp), IsRound o i n → Same H H2 → SqT K H2 p [.int i, .ref l] → H2 l = some (.lst ((opensTo o n).map V.int)) → Q (.ref p) H2
theorem ok_roundI {f : Addr} {fd : FuncData} (F : Fun K "round_from" "round_from" s_round_from f fd) (b : Binds K fd ["start", "move_on"] []) (T : Txt mg) (k : Nat) : HFn P w K mg base k f (spRI K) := by
  refine hfun_ok F sc_round_from rfl b fun cdv B fr st Hx x0 f spf R hgu hr act h => ?_
  obtain ⟨o, N, rfl, hN, few, step, q⟩ := h
  have nd := sc_round_from.nd
  refine ⟨_, (pss_cons (ps_set (i := 2) nd rfl (Or.inl rfl) pe_dnewK)
      (pss_cons (ps_set (i := 3) nd rfl (Or.inl rfl) (pv 0))
      (pss_cons (ps_while PassesOwn.never (pt_cmp (pc_dnotin (hu_of hr) (pv 3) (pv 2))) (pss_cons (ps_dput (hu_of hr) (pv 2) (pv 3) (pe_callB call_lenD (by rfl) T.len (by decide +kernel) (pa_cons (pv 2) pa_nil)) rfl)
      (pss_one (ps_set (i := 3) nd rfl (Or.inl rfl) (pe_act1 (i := 1) act rfl hgu hr rfl (.inl rfl) (pv 3))))))
      (pss_one (ps_ret (pe_tup (pa_cons (pe_dget (hu_of hr) (pv 2) (pv 3) (fun _ _ => rfl)) (pa_cons (pe_callTy (call_list_dK rfl) (by rfl) T.list (by decide +kernel) (pa_cons (pv 2) pa_nil)) pa_nil)))))))), ?_⟩
  refine fun d nd0 => ⟨_, rfl, ?_⟩
  refine ⟨fun m σ HI => ∃ j : Nat, σ = [some (.int (o 0)), some (.ref f), some (.ref d), some (.int (o j))] ∧ m + j = N + 1 ∧ Same Hx HI ∧ HI d = some (.dK (metV (keyI o) j)) ∧ (∀ a b, a < b → b < j → keyI o a ≠ keyI o b),
    ⟨N + 1, 0, rfl, rfl, same_new nd0, upd_same, fun a b _ h => absurd h (Nat.not_lt_zero _)⟩, ?_⟩
  rintro m σ HI ⟨j, rfl, hm, sI, hd, ds⟩
  have fewK : ∀ n, (∀ a b, a < b → b < n → keyI o a ≠ keyI o b) → n ≤ N := fun n h => few n fun a b h1 h2 e => h a b h1 h2 (congrArg Sum.inl e)
  refine ⟨_, rfl, _, rfl, d, _, rfl, DGet.k (k := Sum.inl (o j)) hd, ?_⟩
  rcases met_cases ds with ⟨i, hi, hv⟩ | ⟨nn, hv⟩
  · have hv : valV (metV (keyI o) j) (Sum.inl (o j)) = some (.int (i : Int)) := hv
    rw [hv]
    refine ⟨_, rfl, ifF rfl ?_⟩
    refine ⟨_, rfl, _, rfl, d, _, rfl, (by rw [← hv]; exact DGet.k (k := Sum.inl (o j)) hd), ?_⟩
    refine ⟨_, rfl, d, _, rfl, hd, fun l nl => ⟨by show 2 ≤ sizeLine; decide, fun p np => ?_⟩⟩
    have hd2 := keyI_round.mp hi
    refine q p l i j _ hd2 ((sI.trans (same_new nl)).trans (same_new np)) (.inl (.inl upd_same)) ?_
    have pl : p ≠ l := fun z => by rw [z, upd_same] at np; cases np
    rw [upd_ne pl.symm, upd_same]
    congr 2
    unfold metV opensTo
    rw [List.map_map, List.map_map]
    rfl
  · have hv : valV (metV (keyI o) j) (Sum.inl (o j)) = none := hv
    rw [hv]
    refine ⟨_, rfl, ifT rfl ?_⟩
    have more := met_more ds nn
    have jN := fewK _ more
    refine ⟨fun σ2 H2 => ∃ j2 : Nat, j2 = j + 1 ∧ σ2 = [some (.int (o 0)), some (.ref f), some (.ref d), some (.int (o j2))] ∧ Same Hx H2 ∧ H2 d = some (.dK (metV (keyI o) j2)), ?_, ?_⟩
    · rintro σ2 H2 ⟨j2, rfl, rfl, s2, hd2⟩
      exact ⟨N - j, by omega, j + 1, rfl, by omega, s2, hd2, more⟩
    · have e : putK (metV (keyI o) j) (Sum.inl (o j)) (.int (((metV (keyI o) j).length : Nat) : Int)) = metV (keyI o) (j + 1) := by
        rw [metV_len]
        exact metV_put nn
      have hp := DPut.k (k := Sum.inl (o j)) (v := .int (((metV (keyI o) j).length : Nat) : Int)) hd (by rw [metV_len]; exact small1000 (by omega))
      rw [e] at hp
      refine ⟨_, rfl, d, _, rfl, hd, _, rfl, _, rfl, d, _, rfl, hp, ?_⟩
      have s2 : Same Hx (upd HI d (.dK (metV (keyI o) (j + 1)))) := same_upd_of sI nd0
      exact ⟨rfl, _, rfl, _, rfl, s2, step j _ _ s2 fun H3 s3 => ⟨j + 1, rfl, rfl, s2.trans s3, s3 _ _ upd_same⟩⟩
end
end SG

namespace SG
open PySem PySem.Spec PyProof.Rows L2 TL
section
variable {P : Program} {w : World} {K : PySem.W.Frag} {mg : Str → Option Value} {base : Heap}
abbrev keyT (o : Nat → List Int) : Nat → List Key := fun j => (o j).map Sum.inl
theorem inl_inj {a b : List Int} (h : a.map (Sum.inl : Int → Key) = b.map Sum.inl) : a = b := (List.map_inj_right fun x y e => Sum.inl.inj e).mp h
theorem keyT_round {o : Nat → List Int} {i n : Nat} : IsRound (keyT o) i n ↔ IsRound o i n :=
  ⟨fun h => h.map (o := keyT o) fun a b => ⟨fun e => congrArg (List.map Sum.inl) e, fun e => inl_inj e⟩, fun h => h.map fun a b => ⟨fun e => inl_inj e, fun e => congrArg (List.map Sum.inl) e⟩⟩
theorem key_ints (xs : List Int) : (xs.map (Sum.inl : Int → Key)).map kV = xs.map V.int := by
  rw [List.map_map]
  rfl
/-- the tuples of ints at some places -/
def TupsAt (H : Hp) (bs : List Addr) (xss : List (List Int)) : Prop := Paired (fun (b : Addr) (xs : List Int) => H b = some (.tup (xs.map V.int))) bs xss
theorem tups_of {H : Hp} {o : Nat → List Int} : ∀ {n : Nat} {L : List Nat} {bs : List Addr}, IsKeys H (L.map fun j => (keyT o j, V.int (j : Int))) bs → TupsAt H bs (L.map o)
  | _, [], _, h => by cases h; exact .nil
  | n, j :: L, _, h => by
    cases h with
    | cons h r => exact .cons (by rw [← key_ints]; exact h) (tups_of (n := n) r)
theorem tups_same {H H2 : Hp} (s : Same H H2) : ∀ {bs : List Addr} {xss : List (List Int)}, TupsAt H bs xss → TupsAt H2 bs xss
  | _, _, .nil => .nil
  | _, _, .cons h r => .cons (s _ _ h) (tups_same s r)
def spRT (K : PySem.W.Frag) (spf : V → Hp → VK → Prop) (x0 : V) (H : Hp) (Q : VK) : Prop := ∃ (o : Nat → List Int) (N : Nat) (t0 : Addr), x0 = .ref t0 ∧ H t0 = some (.tup ((o 0).map V.int)) ∧ N ≤ 1000 ∧ (∀ n, (∀ a b, a < b → b < n → o a ≠ o b) → n ≤ N) ∧
  (∀ (k : Nat) (t : Addr) (HZ : Hp) (R : VK), Same H HZ → HZ t = some (.tup ((o k).map V.int)) → (∀ t3 H3, Same HZ H3 → H3 t3 = some (.tup ((o (k + 1)).map V.int)) → R (.ref t3) H3) → spf (.ref t) HZ R) ∧
  ∀ (p l : Addr) (bs : List Addr) (i n : Nat) (H2 : Hp), IsRound o i n → Same H H2 → SqT K H2 p [.int i, .ref l] → H2 l = some (.lst (bs.map V.ref)) → TupsAt H2 bs ((List.range n).map o) → Q (.ref p) H2
theorem ok_roundT {f : Addr} {fd : FuncData} (F : Fun K "round_from" "round_from" s_round_from f fd) (b : Binds K fd ["start", "move_on"] []) (T : Txt mg) (k : Nat) : HFn P w K mg base k f (spRT K) := by
  refine hfun_ok F sc_round_from rfl b fun cdv B fr st Hx x0 f spf R hgu hr act h => ?_
  obtain ⟨o, N, t0, rfl, ht0, hN, few, step, q⟩ := h
  have nd := sc_round_from.nd
  refine ⟨_, (pss_cons (ps_set (i := 2) nd rfl (Or.inl rfl) pe_dnewT)
      (pss_cons (ps_set (i := 3) nd rfl (Or.inl rfl) (pv 0))
      (pss_cons (ps_while PassesOwn.never (pt_cmp (pc_dnotin (hu_of hr) (pv 3) (pv 2))) (pss_cons (ps_dput (hu_of hr) (pv 2) (pv 3) (pe_callB call_len_dT (by rfl) T.len (by decide +kernel) (pa_cons (pv 2) pa_nil)) rfl)
      (pss_one (ps_set (i := 3) nd rfl (Or.inl rfl) (pe_act1 (i := 1) act rfl hgu hr rfl (.inl rfl) (pv 3))))))
      (pss_one (ps_ret (pe_tup (pa_cons (pe_dget (hu_of hr) (pv 2) (pv 3) (fun _ _ => rfl)) (pa_cons (pe_callTy (call_list_dT rfl) (by rfl) T.list (by decide +kernel) (pa_cons (pv 2) pa_nil)) pa_nil)))))))), ?_⟩
  refine fun d nd0 => ⟨_, rfl, ?_⟩
  have td : t0 ≠ d := ne_of_none ht0 nd0
  refine ⟨fun m σ HI => ∃ (j : Nat) (t : Addr), σ = [some (.ref t0), some (.ref f), some (.ref d), some (.ref t)] ∧ m + j = N + 1 ∧ Same Hx HI ∧ HI d = some (.dT (metV (keyT o) j)) ∧ HI t = some (.tup ((o j).map V.int)) ∧ (∀ a b, a < b → b < j → keyT o a ≠ keyT o b),
    ⟨N + 1, 0, t0, rfl, rfl, same_new nd0, upd_same, (by rw [upd_ne td]; exact ht0), fun a b _ h => absurd h (Nat.not_lt_zero _)⟩, ?_⟩
  rintro m σ HI ⟨j, t, rfl, hm, sI, hd, ht, ds⟩
  have fewK : ∀ n, (∀ a b, a < b → b < n → keyT o a ≠ keyT o b) → n ≤ N := fun n h => few n fun a b h1 h2 e => h a b h1 h2 (congrArg (List.map Sum.inl) e)
  have get : DGet HI d (.ref t) (valV (metV (keyT o) j) (keyT o j)) := .inr ⟨_, keyT o j, t, .inl hd, rfl, (by rw [key_ints]; exact ht), rfl⟩
  refine ⟨_, rfl, _, rfl, d, _, rfl, get, ?_⟩
  rcases met_cases ds with ⟨i, hi, hv⟩ | ⟨nn, hv⟩
  · rw [hv] at get ⊢
    refine ⟨_, rfl, ifF rfl ?_⟩
    refine ⟨_, rfl, _, rfl, d, _, rfl, get, ?_⟩
    refine ⟨_, rfl, d, _, rfl, .inl hd, fun l bs nl ks => ⟨by show 2 ≤ sizeLine; decide, fun p np => ?_⟩⟩
    have hd2 := keyT_round.mp hi
    have pl : p ≠ l := fun z => by rw [z, upd_same] at np; cases np
    have s1 : Same HI (upd HI l (.lst (bs.map V.ref))) := same_new nl
    have s2 := s1.trans (same_new (o := .tup [.int (i : Int), .ref l]) np)
    refine q p l bs i j _ hd2 (sI.trans s2) (.inl (.inl upd_same)) (by rw [upd_ne pl.symm, upd_same]) ?_
    have tu := tups_of (n := j) (L := List.range j) (bs := bs) (o := o) (H := HI) ks
    exact tups_same s2 tu
  · rw [hv]
    refine ⟨_, rfl, ifT rfl ?_⟩
    have more := met_more ds nn
    have jN := fewK _ more
    refine ⟨fun σ2 H2 => ∃ (j2 : Nat) (t2 : Addr), j2 = j + 1 ∧ σ2 = [some (.ref t0), some (.ref f), some (.ref d), some (.ref t2)] ∧ Same Hx H2 ∧ H2 d = some (.dT (metV (keyT o) j2)) ∧ H2 t2 = some (.tup ((o j2).map V.int)), ?_, ?_⟩
    · rintro σ2 H2 ⟨j2, t2, rfl, rfl, s2, hd2, ht2⟩
      exact ⟨N - j, by omega, j + 1, t2, rfl, by omega, s2, hd2, ht2, more⟩
    · have e : putK (metV (keyT o) j) (keyT o j) (.int (((metV (keyT o) j).length : Nat) : Int)) = metV (keyT o) (j + 1) := by
        rw [metV_len]
        exact metV_put nn
      have hp : DPut HI d (.ref t) (.int (((metV (keyT o) j).length : Nat) : Int)) (upd HI d (.dT (metV (keyT o) (j + 1)))) := .inr ⟨_, keyT o j, t, hd, rfl, (by rw [key_ints]; exact ht), (by rw [metV_len]; exact small1000 (by omega)), by rw [e]⟩
      refine ⟨_, rfl, d, _, rfl, hd, _, rfl, _, rfl, d, _, rfl, hp, ?_⟩
      have s2 : Same Hx (upd HI d (.dT (metV (keyT o) (j + 1)))) := same_upd_of sI nd0
      have dt : t ≠ d := fun z => by rw [z, hd] at ht; cases ht
      exact ⟨rfl, _, rfl, _, rfl, s2, step j t _ _ s2 (by rw [upd_ne dt]; exact ht) fun t3 H3 s3 h3 => ⟨j + 1, t3, rfl, rfl, s2.trans s3, s3 _ _ upd_same, h3⟩⟩
end
end SG

/-! enumerate of a text from a number on; an integer's figures of base 2 in an f-string. -/
namespace SG
section
open PySem PyProof.Rows Builtin
def fB : PySem.Builtin.Float.FormatSpec := { fill := 32, align := 62, type := some 98 }
theorem fB_ok : PySem.Builtin.Float.parseFormatSpec ("b" : PySem.Str).cps.toList "int" 62 = .ok fB := by
  rfl
section
variable {prog : Program} {w : World} {A : Around} {E : Value → Shared → Prop} {s : Shared} {env : Env}
theorem mk_eq {M : Model} {X T : PySem.Str} {Q : Value → Shared → Prop} (e : X = T) (hL : T.length ≤ sizeLine) (h : Q (.str T s.toks) { s with toks := s.toks + 1 }) : wpAny M A (mkStr X) Q E s := by
  subst e
  exact wpAny_mkStr h hL
theorem formatField_int_b2 {n : Nat} {t : Tok} {spec : PySem.Str} {f : PySem.Builtin.Float.FormatSpec} {Q : Value → Shared → Prop} (hl : (Nat.toDigits 2 n).length ≤ 1000) (hd : Nat.toDigits 2 n ≠ [])
    (hp : PySem.Builtin.Float.parseFormatSpec spec.cps.toList "int" 62 = .ok f) (hty : f.type = some 98) (hpr : f.precision = none) (hz : f.noNeg0 = false) (hal : f.alt = false) (hw : f.width = none) (hgr : f.grouping = none) (hsg : f.sign = none) (hfi : f.fill = 32) (hag : f.align = 62) (hne : (spec.length == 0) = false) (hsz : spec.length ≤ sizeLine)
    (hasc : ((spec.cps.toList.drop 1).any (· ≥ 128) || (spec.cps.getD 0 0 ≥ 128 && !([60, 62, 61, 94] : List Nat).contains (spec.cps.getD 1 0))) = false)
    (h : Q (.str ⟨((Nat.toDigits 2 n).map Char.toNat).toArray⟩ (s.toks + 1)) { s with toks := s.toks + 1 + 1 }) :
    wpAny (model prog w) A (formatField (.int n t) spec) Q E s := by
  show wpAny _ _ (holding [.int n t] (pyFormat (.int n t) spec)) Q E s
  refine wpAny_holding ?_
  unfold pyFormat
  refine wpAny_bind (wpAny_mkStr ?_ hsz)
  refine wpAny_bind (m := callSpecial? (.int n t) (Str.ofString "__format__") [.str spec s.toks]) (wpAny_callSpecial?_slot (name := Str.ofString "__format__") (typeIs_int _ n t) slot_int_format ?_)
  refine wpAny_call (codeAny_call_builtin slot_int_format.plain entry_int_format (slot_int_format.check _ _ _ _ _ _ _ _ (typeIs_int _ n t) (args_int_format _ _) ?_))
  unfold Builtin.«int.__format__»
  simp only [selfAndOne, noKeywords, Int.intOfSelf, asInt?, asStr?, List.isEmpty_nil, if_true, pure_bind, bind_pure, bind_assoc, hne, hasc, Bool.false_eq_true, if_false,
    show (Value.str spec s.toks == Value.none) = false from rfl]
  refine wpAny_bind (wpAny_typeNameOf (T := "str") (typeIs_str _ _ _) (by decide) fun _ => ?_)
  first | refine wpAny_bind (wpAny_typeNameOfCut_int ?_) | refine wpAny_bind (wpAny_typeNameOf_int ?_)
  simp only [hp, hty, Option.getD_some]
  rw [if_pos (by decide)]
  show wpAny _ _ (if _ then _ else _) _ _ _
  rw [if_neg (by simp [hpr])]
  show wpAny _ _ (if _ then _ else _) _ _ _
  rw [if_neg (by simp [hz])]
  show wpAny _ _ (if _ then _ else _) _ _ _
  rw [if_neg (by decide)]
  show wpAny _ _ (if _ then _ else _) _ _ _
  rw [if_neg (by decide)]
  show wpAny _ _ (if _ then _ else _) _ _ _
  rw [if_neg (by simp [hw])]
  show wpAny _ _ (retStr _) _ _ _
  unfold retStr
  have e : ∀ d : Nat, (if ((98 : Nat) == 88) = true then (Nat.digitChar d).toUpper else Nat.digitChar d).toNat = (Nat.digitChar d).toNat := fun d => rfl
  refine wpAny_bind (mk_eq (T := ⟨((Nat.toDigits 2 n).map Char.toNat).toArray⟩) ?_ ?_ (wpAny_pure ?_))
  · rw [if_neg (show ¬ f.alt = true by rw [hal]; exact Bool.false_ne_true)]
    have e1 : (List.map (fun c : Char => (if ((98 : Nat) == 88) = true then c.toUpper else c).toNat) (Nat.toDigits 2 (n : Int).natAbs)) = (Nat.toDigits 2 n).map Char.toNat := rfl
    have e2 : decide ((n : Int) < 0) = false := decide_eq_false (by omega)
    have e3 : ((Nat.toDigits 2 n).map Char.toNat).isEmpty = false := by
      cases q : Nat.toDigits 2 n with
      | nil => exact absurd q hd
      | cons _ _ => rfl
    rw [e1, e2]
    have ef : f = fB := by
      cases f
      simp_all [fB]
    clear hp hty hpr hz hal hw hgr hsg hfi hag h
    subst ef
    generalize (Nat.toDigits 2 n).map Char.toNat = ds at e3 ⊢
    cases ds with
    | nil => cases e3
    | cons a r =>
      conv => lhs; whnf
      have z : ((-1 : Int) - ((0 : Nat) + (0 : Nat) + (0 : Nat)) - (((a :: r).length : Nat) : Int)).toNat = 0 := by omega

      simp [fB]
      omega
  · show ((Nat.toDigits 2 n).map Char.toNat).toArray.size ≤ sizeLine
    rw [List.size_toArray, List.length_map]
    exact Nat.le_trans hl (by decide)
  · dsimp only
    refine wpAny_bind (wpAny_isInstance (typeIs_str _ _ _) isSubtype_str_str (wpAny_pure ?_))
    exact h
theorem formatField_int_b {n : Nat} {t : Tok} {Q : Value → Shared → Prop} (hl : (Nat.toDigits 2 n).length ≤ 1000) (hd : Nat.toDigits 2 n ≠ [])
    (h : Q (.str ⟨((Nat.toDigits 2 n).map Char.toNat).toArray⟩ (s.toks + 1)) { s with toks := s.toks + 1 + 1 }) :
    wpAny (model prog w) A (formatField (.int n t) "b") Q E s :=
  formatField_int_b2 hl hd fB_ok rfl rfl rfl rfl rfl rfl rfl rfl rfl (by decide +kernel) (by decide) (by decide +kernel) h
end
end
end SG
namespace SG
open PySem PySem.Spec PyProof.Rows L2
section
variable {M : Model} {A : Around} {E : Value → Shared → Prop} {s : Shared} {env : Env}
theorem callWith_tyKwB {pos : Pos} {T : String} {first : List Value} {args : List (Bool × Sem Value)} {keywords : List (Option Str × Sem Value)} {Q : Value → Shared → Prop}
    (hplain : args.any (·.1) = false) (hkw : keywords.any (·.1.isNone) = false)
    (h : wpAny M A (evalArgs (.type T) true args keywords) (fun a s₁ => wpAny M A (call (.type T) (first ++ a.pos) a.kw) Q E s₁) E s) :
    wpAny M A (callWith pos (.type T) first args keywords) Q E s := by
  unfold callWith
  refine wpAny_bind (wpAny_holding (wpAny_mono h (fun a s₁ h₁ => wpAny_bind (wpAny_standAt ?_)) fun _ _ x => x))
  simp only [hplain, hkw, Bool.or_false]
  refine wpAny_bind (wpAny_pure ?_)
  exact wpAny_bind (wpAny_mono h₁ (fun r s₂ hr => wpAny_bind (wpAny_holding (wpAny_point (wpAny_pure hr)))) fun _ _ x => x)
theorem callWith_tyKw {pos : Pos} {T : String} {e : Expr} {rest : List Expr} {kws : List Keyword} {Q : Value → Shared → Prop}
    (h : wpAny M A (spliced (backTo pos (starEach (e :: rest) env))) (fun vs s₁ => wpAny M A (evalAll ((backToKw pos (keywordEach kws env)).map (·.2)))
      (fun kvs s₂ => wpAny M A (call (.type T) vs (((backToKw pos (keywordEach kws env)).filterMap (·.1)).zip kvs)) Q E s₂) E s₁) E s)
    (he : backTo pos (starEach (e :: rest) env) = (false, eval e env) :: backTo pos (starEach rest env) := by rfl)
    (hplain : (backTo pos (starEach (e :: rest) env)).any (·.1) = false := by rfl)
    (hall : (backToKw pos (keywordEach kws env)).all (·.1.isSome) = true := by rfl)
    (hkw : (backToKw pos (keywordEach kws env)).any (·.1.isNone) = false := by rfl) :
    wpAny M A (callWith pos (.type T) [] (backTo pos (starEach (e :: rest) env)) (backToKw pos (keywordEach kws env))) Q E s := by
  refine callWith_tyKwB hplain hkw ?_
  rw [he] at h ⊢
  exact evalArgs_kwB hall h
end
theorem Draws.shift {prog : Program} {w : World} {A : Around} {it : Addr} {fp : List Addr} {n : Nat} {P : Nat → Value → Prop} {St : Nat → Heap → Prop} (D : Draws prog w A it fp n P St) (k : Nat) :
    Draws prog w A it fp (k + n) (fun j v => P (j - k) v) (fun j h => k ≤ j ∧ St (j - k) h) where
  live := fun _ _ st => D.live _ _ st.2
  frame := fun _ _ _ st hk => ⟨st.1, D.frame _ _ _ st.2 hk⟩
  item := fun i s Q E hi st hQ => D.item (i - k) s Q E (by omega) st.2 fun v h' tk p st' sb => hQ v h' tk p ⟨by omega, by rw [show i + 1 - k = i - k + 1 by omega]; exact st'⟩ sb
  done := fun s Q E st hE => D.done s Q E (by rw [show n = k + n - k by omega]; exact st.2) hE
/-- a text's signs, each behind its number, from k on, in a new pair -/
def IteS (x : Str) (k : Nat) : It :=
  ⟨fun i _ => i < x.cps.size, fun i Hx v H2 => ∃ T c, v = .ref T ∧ Hx T = none ∧ x.cps[i]? = some c ∧ H2 = upd Hx T (.tup [.int ((k + i : Nat) : Int), .str ⟨#[c]⟩]), fun i _ => x.cps.size ≤ i⟩
theorem turn_enumS {P : Program} {w : World} {K : PySem.W.Frag} {elts : List Expr} {kk : Nat} {tpos : Pos} (x : Str) (t : Tok) (k : Nat) (e it : Addr) :
    Turn P w K (.Tuple elts kk tpos) (IteS x k) [e, it] e (fun i h => (∃ old, IsEnum h e it ((k + i : Nat) : Int) old) ∧ h.IsStrIter it (strIterType x) x t i ∧ e ≠ it) where
  mem := by simp
  obj := fun i h q b hb => by
    obtain ⟨⟨old, he⟩, ⟨o, ho, hc, hd⟩, _⟩ := q
    rcases (show b = e ∨ b = it by simpa using hb) with z | z
    · rw [z]; exact ⟨_, he, fun v q => nomatch q⟩
    · rw [z]; exact ⟨o, ho, fun v q => by rw [hd] at q; cases q⟩
  keep := fun i h h2 q kp => by
    obtain ⟨⟨old, he⟩, ⟨o, ho, r⟩, hne⟩ := q
    exact ⟨⟨old, kp e (by simp) _ he⟩, ⟨o, kp it (by simp) o ho, r⟩, hne⟩
  item := by
    intro X hP hw hK hc i pins st σ Hx E I hf q hg
    subst hP hw hK
    obtain ⟨⟨old, he⟩, hit, hne⟩ := q
    have hel : e < st.heap.objs.size := Heap.lt_size he
    have hil : it < st.heap.objs.size := by obtain ⟨_, z, _⟩ := hit; exact Heap.lt_size z
    have hi : i < x.cps.size := hg
    refine wpAny_pyNext_enum_itemD (Draws.shift (Draws.text (prog := X.prog) (w := X.w) (A := X.A.in1) (I.ok.hd hc) it x t) k) (i := k + i) he ⟨Nat.le_add_right _ _, by rw [Nat.add_sub_cancel_left]; exact hit⟩ (by omega) hne (by simp [hne]) fun y h1 tk hy ho hs1 hT hsz hk => ?_
    obtain ⟨c, u, hcx, rfl⟩ := hy
    rw [Nat.add_sub_cancel_left] at hcx
    have hs2 := hs1.2
    rw [show k + i + 1 - k = i + 1 by omega] at hs2
    refine ⟨_, rfl, wpAny_letOwnedTupleGo_enum (s := { st with heap := h1, toks := tk + 1 }) ho fun h2 he2 sb => ?_⟩
    have hT2 : h2.get? st.heap.objs.size = some { cls := .type "tuple", data := .seq #[.int ((k + i : Nat) : Int) tk, .str ⟨#[c]⟩ u] } := (sb.2 _ (Nat.ne_of_gt hel)).trans hT
    have new : ObjOk X.prog X.w (upd Hx st.heap.objs.size (.tup [.int ((k + i : Nat) : Int), .str ⟨#[c]⟩])) h2 st.heap.objs.size (.tup [.int ((k + i : Nat) : Int), .str ⟨#[c]⟩]) :=
      ⟨by show 2 ≤ sizeLine; decide, [.int ((k + i : Nat) : Int) tk, .str ⟨#[c]⟩ u], .cons ⟨_, rfl⟩ (.cons ⟨_, rfl⟩ .nil), ⟨_, hT2, rfl, _, rfl⟩⟩
    have I1 : L2.Inv X pins σ (upd Hx st.heap.objs.size (.tup [.int ((k + i : Nat) : Int), .str ⟨#[c]⟩])) { st with heap := h2, toks := tk + 1 } :=
      I.turnedNew (ch := [e, it]) (fun b ob hb z => (sb.2 b (fun z => hb (by simp [z]))).trans (hk b ob (fun z => hb (by simp [z])) (fun z => hb (by simp [z])) z)) hf (Nat.le_refl _) new
    refine ⟨.ref st.heap.objs.size, _, I1, rfl, ⟨_, c, rfl, I.hok.fresh (Nat.le_refl _), hcx, rfl⟩, ⟨⟨.str ⟨#[c]⟩ u, ?_⟩, ?_, hne⟩, fun b hb => ?_⟩
    · rw [show ((k + (i + 1) : Nat) : Int) = ((k + i : Nat) : Int) + 1 by omega]
      exact he2
    · obtain ⟨o, ho, r⟩ := hs2
      exact ⟨o, (sb.2 it (Ne.symm hne)).trans ho, r⟩
    · have hb2 : b < st.heap.objs.size := by
        rcases (show b = e ∨ b = it by simpa using hb) with z | z
        · rw [z]; exact hel
        · rw [z]; exact hil
      rw [upd_ne (Nat.ne_of_lt hb2)]
      exact (hf b hb).1
  done := by
    intro X hP hw hK hc i pins st σ Hx E I hf q hg
    subst hP hw hK
    obtain ⟨⟨old, he⟩, hit, hne⟩ := q
    obtain ⟨f0, f1, f2, f3, f4, f5⟩ := hf it (by simp)
    have hx : x.cps[i]? = none := Array.getElem?_eq_none hg
    have D : Draws X.prog X.w X.A.in1 it [it] i (fun _ _ => True) (fun j h => j = i ∧ h.IsStrIter it (strIterType x) x t i) :=
      { live := fun _ _ z => by obtain ⟨_, ⟨o, ho, _⟩⟩ := z; exact ⟨o, ho⟩
        frame := fun _ _ _ z hk => ⟨z.1, by obtain ⟨o, ho, r⟩ := z.2; exact ⟨o, hk it (by simp) o ho, r⟩⟩
        item := fun j s Q E hj z => absurd z.1 (Nat.ne_of_lt hj)
        done := fun s Q E z hE => ?dn }
    case dn =>
      obtain ⟨_, z⟩ := z
      revert z
      unfold strIterType
      cases ha : x.cps.all (· < 128)
      · simp only [Bool.false_eq_true, if_false]
        intro z
        exact wpAny_nextOf_wide_end (I.ok.hd hc) z hx hE
      · simp only [if_true]
        intro z
        exact wpAny_nextOf_ascii_end (I.ok.hd hc) z hx hE
    exact wpAny_pyNext_enum_endD D he ⟨rfl, hit⟩ fun h2 eb => ⟨rfl, I.turned (t' := st.toks) (fun b o hb q => eb b o hb q) f0 f1 f3 f4 f5⟩
  self := fun A i st Q E q h => by
    obtain ⟨⟨_, he⟩, _⟩ := q
    exact wpAny_pyIter_enum he h
def iEnumS (ta tk : TA) : TI := fun σ Hx R => ta σ Hx fun vs H1 => tk σ H1 fun ks H2 => ∃ (x : Str) (k : Nat), vs = [.str x] ∧ ks = [.int k] ∧ k < 1000000 ∧ R (IteS x k) H2
theorem pi_enumS {X : Cx} {e c : Expr} {ta tk : TA} {p pos tpos kpos : Pos} {elts : List Expr} {kk : Nat} (hg : Gl X "enumerate") (hm : X.mg "enumerate" = none) (ha : PA X [e] ta) (hk : PK X [⟨some "start", c, kpos⟩] tk) (hs : starEach [e] X.env = [(false, eval e X.env)] := by rfl) :
    PI X (.Tuple elts kk tpos) (.Call (.Name "enumerate" p) [e] [⟨some "start", c, kpos⟩] pos) (iEnumS ta tk) := by
  refine ⟨fun pins st σ Hx R I h => ?_⟩
  refine wpAny_Call_Name_kw (ld_blt I hg hm boot_enumerate (callWith_tyKw (thn (ha.run pos pins st σ Hx _ I h) ?_) (by rw [hs]; rfl) (by rw [hs]; rfl)))
  rintro us s1 ⟨vs, H1, I1, r1, q1⟩
  refine thn (hk.run pos pins s1 σ H1 _ I1 q1) ?_
  rintro ws s2 ⟨zs, H2, I2, r2, x, k, rfl, rfl, hk9, q⟩
  obtain ⟨t, rfl⟩ : ∃ t, us = [.str x t] := by
    cases r1 with
    | cons x y => cases y; obtain ⟨t, rfl⟩ := x; exact ⟨_, rfl⟩
  obtain ⟨u, rfl⟩ : ∃ u, ws = [.int k u] := by
    cases r2 with
    | cons x y => cases y; obtain ⟨t, rfl⟩ := x; exact ⟨_, rfl⟩
  show wpAny _ _ (call (.type "enumerate") [.str x t] [(Str.ofString "start", .int k u)]) _ _ _
  refine enum_begins_start (begins_text x t) trivial (by omega) (by omega) fun h2 he hit hsz hkp => wpAny_pyIter_enum he ?_
  have I3 : L2.Inv X pins σ H2 { s2 with heap := h2 } := I2.kept (t' := s2.toks) hkp
  refine ⟨s2.heap.objs.size + 1, [s2.heap.objs.size + 1, s2.heap.objs.size], _, _, H2, rfl, I3, turn_enumS x t k (s2.heap.objs.size + 1) s2.heap.objs.size,
    ⟨⟨.none, he⟩, ⟨_, hit, rfl, rfl⟩, Nat.succ_ne_self _⟩, fun b hb => ?_, q⟩
  have hle : s2.heap.objs.size ≤ b := by
    rcases (show b = s2.heap.objs.size + 1 ∨ b = s2.heap.objs.size by simpa using hb) with z | z
    · rw [z]; exact Nat.le_succ _
    · rw [z]; exact Nat.le_refl _
  exact I2.fpOk hle (I2.hok.fresh hle)
end SG

namespace SG
open PySem PySem.Spec PyProof.Rows L2
open SX (S)
/-- an integer's figures of base 2, as signs -/
def binS (n : Nat) : List Nat := (Nat.toDigits 2 n).map Char.toNat
def tFmtB (te : TE) : TE := fun σ H Q => te σ H fun x H1 => ∃ n : Nat, x = .int n ∧ n < 2 ^ 900 ∧ Q (.str (S (binS n))) H1
theorem bin_len {n : Nat} (h : n < 2 ^ 900) : (Nat.toDigits 2 n).length ≤ 1000 := Nat.le_trans (toDigits_len_pow (by decide) (by decide) h) (by decide)
theorem bin_ne (n : Nat) : Nat.toDigits 2 n ≠ [] := by
  intro e
  have := toDigits_len_ge 2 n
  rw [e] at this
  cases this
theorem pe_fmtB {X : Cx} {e : Expr} {te : TE} {pos p1 p2 : Pos} {j : Nat} (he : PE X e te) : PE X (.FormattedValue e (-1) (some (.JoinedStr [.Constant (.str "b") j p1] p2)) pos) (tFmtB te) := by
  refine ⟨fun pins s σ H Q I h => wpAny_FormattedValue_spec (thn (he.run pins s σ H _ I h) ?_)⟩
  rintro v s1 ⟨x, H1, I1, r1, n, rfl, hn, q⟩
  obtain ⟨t, rfl⟩ := r1
  refine thn ((pe_joined1 (X := X) (pe_str (x := "b"))).run pins s1 σ H1 (fun y H2 => y = .str "b" ∧ H2 = H1) I1 ⟨rfl, rfl⟩) ?_
  rintro u s2 ⟨y, H2, I2, r2, rfl, rfl⟩
  obtain ⟨t2, rfl⟩ := r2
  exact ⟨_, _, rfl, formatField_int_b (bin_len hn) (bin_ne n) ⟨.str (S (binS n)), H2, I2.tok _, ⟨_, rfl⟩, q⟩⟩
theorem walk_enumS {x : Str} {k : Nat} : Walk (IteS x k) x.cps.size (fun _ => True) (fun i H v H' => ∃ T c, v = .ref T ∧ H T = none ∧ x.cps[i]? = some c ∧ H' = upd H T (.tup [.int ((k + i : Nat) : Int), .str ⟨#[c]⟩])) :=
  ⟨fun _ _ hi _ => hi, fun _ _ => Nat.le_refl _, fun _ _ _ _ _ _ y => y⟩
end SG

/-! // by a divisor of either sign; texts of integers below a bound. -/
namespace SG
open PySem PySem.Spec PyProof.Rows L2
/-- // by a divisor that is not 0, below 2 ^ 9000 either way -/
def CDivN (_ j : Int) : Prop := j ≠ 0 ∧ j.natAbs.log2 < 9000
theorem op_fdivN {X : Cx} : OpR X (binaryOp .FloorDiv) (rI CDivN fun i j => .int (i.fdiv j)) := opI fun i j _ _ _ _ _ hc q =>
  floordiv_int hc.1 q (.inl (PyProof.noPylong_of_log2 hc.2))
theorem wide_divN {i j : Int} {b : Nat} (h : j ≠ 0) (hb : j.natAbs < 2 ^ b) (h0 : 0 < b) (h9 : b ≤ 9000) : CDivN i j := ⟨h, Nat.lt_of_lt_of_le (PySem.Flt.log2_lt_of h0 hb) h9⟩
theorem fdiv_pos_eq {a g : Int} (h : 0 < g) : a.fdiv g = a / g := Int.fdiv_eq_ediv_of_nonneg a (by omega)
theorem fdiv_neg_eq {a g : Int} (h : 0 < g) : a.fdiv (-g) = (-a) / g := by
  have z : (-(-a)).fdiv (-g) = (-a).fdiv g := Int.neg_fdiv_neg ..
  rw [Int.neg_neg] at z
  rw [z]
  exact fdiv_pos_eq h
end SG

namespace SG
open PySem PySem.Spec PyProof.Rows L2 TL
section
variable {P : Program} {w : World} {K : PySem.W.Frag} {mg : Str → Option Value} {base : Heap}
theorem fdiv_sgn {x b : Int} {g : Nat} (hg : 0 < g) : x.fdiv (sgn b * g) = sgn b * x / g := by
  unfold sgn
  split
  · rw [Int.one_mul, Int.one_mul]
    exact fdiv_pos_eq (by omega)
  · rw [Int.neg_one_mul, Int.neg_one_mul]
    exact fdiv_neg_eq (by omega)
theorem sgn_neg {b : Int} (g : Int) (h : b < 0) : sgn b * g = -g := by
  unfold sgn
  rw [if_neg (by omega), Int.neg_one_mul]
theorem sgn_nn {b : Int} (g : Int) (h : ¬ b < 0) (nz : b ≠ 0) : sgn b * g = g := by
  unfold sgn
  rw [if_pos (by omega), Int.one_mul]
theorem sgn_abs (b : Int) (g : Nat) : (sgn b * g).natAbs = g := by
  unfold sgn
  split <;> omega
theorem gcd_fits {a b : Int} (hb : b ≠ 0) (fb : Fits b) : Int.gcd a b < 2 ^ 2000 := Nat.lt_of_le_of_lt (Nat.le_of_dvd (by omega) (by exact Nat.gcd_dvd_right _ _)) fb
theorem ok_fraction {f : Addr} {fd : FuncData} (F : Fun K "fraction" "fraction" s_fraction f fd) (T : Txt mg) : GFn P w K mg base CX0 1 f fd ["top", "bottom"] (spRatio K) := by
  refine gfun_ok F sc_fraction (fun vs H Q E h => ?_) (fun cdv A outer s H vs Q E hgu hr h => ?_)
  · obtain ⟨a, b, rfl, _⟩ := h
    rfl
  · obtain ⟨a, b, rfl, hb, fa, fb, q⟩ := h
    have nd := sc_fraction.nd
    refine ⟨_, (pss_cons (ps_set (i := 2) nd rfl (Or.inl rfl) (pe_callBfun cr_gcd (by rfl) T.gcd (pa_cons (pv 0) (pa_cons (pv 1) pa_nil))))
      (C8.pss_cut (ps_if (pt_cmpR op_lt (pv 1) pe_int (nomark _)) (pss_one (ps_set (i := 2) nd rfl (Or.inl rfl) (pe_un un_neg (pv 2)))) pss_nil)
      (pss_one (ps_ret (pe_tup (pa_cons (pe_op op_fdivN (pv 0) (pv 2)) (pa_cons (pe_op op_fdivN (pv 1) (pv 2)) pa_nil))))))), ?_⟩
    have gp : 0 < Int.gcd a b := gcd_pos hb
    have gf := gcd_fits (a := a) hb fb
    refine ⟨_, rfl, _, rfl, a, b, rfl, ?_⟩
    refine ⟨fun σ' H' => σ' = [some (.int a), some (.int b), some (.int (sgn b * (Int.gcd a b : Nat)))] ∧ H' = H, ?_, ?_⟩
    · refine ⟨_, rfl, _, _, rfl, rfl, _, rfl, ite2 (fun h => ?_) (fun h => ?_)⟩
      · refine ⟨_, rfl, _, rfl, ?_, rfl⟩
        rw [sgn_neg _ (of_decide_eq_true h)]
        rfl
      · refine ⟨?_, rfl⟩
        rw [sgn_nn _ (fun z => h (decide_eq_true z)) hb]
        rfl
    · rintro σ' H' ⟨rfl, rfl⟩
      have cd : ∀ x, CDivN x (sgn b * (Int.gcd a b : Nat)) := fun x => wide_divN (b := 2000) (by have := sgn_abs b (Int.gcd a b); omega) (by rw [sgn_abs]; exact gf) (by decide) (by decide)
      refine ⟨_, rfl, _, rfl, _, _, rfl, rfl, cd _, _, rfl, _, rfl, _, _, rfl, rfl, cd _, by show 2 ≤ sizeLine; decide, fun p np => ?_⟩
      have e1 : a.fdiv (sgn b * (Int.gcd a b : Nat)) = ratN a b := fdiv_sgn gp
      have e2 : b.fdiv (sgn b * (Int.gcd a b : Nat)) = ratD a b := fdiv_sgn gp
      show Q (V.ref p) (upd H' p (HO.tup [.int (a.fdiv (sgn b * (Int.gcd a b : Nat))), .int (b.fdiv (sgn b * (Int.gcd a b : Nat)))]))
      rw [e1, e2]
      exact q p _ (same_new np) (.inl (.inl upd_same))
def spWeighed (K : PySem.W.Frag) : Sp := fun vs H Q _ => ∃ (a : Addr) (xs : List Int), vs = [.ref a] ∧ SqL K H a (xs.map V.int) ∧ xs.length ≤ 400 ∧ (∀ x ∈ xs, 0 ≤ x ∧ x ≤ 1000) ∧ Q (.int (weighed xs)) H
theorem ok_weighed {f : Addr} {fd : FuncData} (F : Fun K "weighed" "weighed" s_weighed f fd) (T : Txt mg) : GFn P w K mg base CX0 1 f fd ["opens"] (spWeighed K) := by
  refine gfun_ok F sc_weighed (fun vs H Q E h => ?_) (fun cdv A outer s H vs Q E hgu hr h => ?_)
  · obtain ⟨a, xs, rfl, _⟩ := h
    rfl
  · obtain ⟨a, xs, rfl, hS, hl, hx, q⟩ := h
    have nd := sc_weighed.nd
    refine ⟨_, (pss_cons (ps_set (i := 1) nd rfl (Or.inl rfl) pe_int)
      (pss_cons (ps_for PassesOwn.never rfl (pi_list (pv 0)) (pg_name (i := 2) nd rfl (Or.inl rfl))
        (pss_one (ps_set (i := 1) nd rfl (Or.inl rfl) (pe_op op_add (pe_op op_mul pe_int (pv 1)) (pv 2)))))
      (pss_one (ps_ret (pv 1))))), ?_⟩
    refine ⟨_, rfl, a, rfl, ⟨_, hS⟩, for_list (K := K) (a := a) (xs := xs.map V.int) (fun i σ H2 => ∃ y : Option V, σ = [some (.ref a), some (.int (weighed (xs.take i))), y] ∧ H2 = H) ⟨none, rfl, rfl⟩ (fun i σ H2 _ ⟨_, _, e⟩ => e ▸ hS) ?_ ?_⟩
    · rintro i y σ H2 hi ⟨y3, rfl, rfl⟩
      obtain ⟨z, hz, rfl⟩ : ∃ z, xs[i]? = some z ∧ y = V.int z := by
        rw [List.getElem?_map] at hi
        obtain ⟨z, hz, e⟩ := Option.map_eq_some_iff.mp hi
        exact ⟨z, hz, e.symm⟩
      have e : weighed (xs.take (i + 1)) = 2 * weighed (xs.take i) + z := by
        rw [List.take_succ, hz]
        exact weighed_snoc _ _
      refine ⟨_, rfl, _, _, rfl, rfl, .inl ⟨by decide, by decide⟩, _, rfl, _, _, rfl, rfl, some (.int z), ?_, rfl⟩
      rw [e]
      rfl
    · rintro σ H2 ⟨y3, rfl, rfl⟩
      refine ⟨_, rfl, ?_⟩
      rw [List.length_map, List.take_length]
      exact q
theorem cut_take (xs : List V) (n : Nat) : cutV xs none (some (n : Int)) = xs.take n := by
  unfold cutV
  rw [HT.sIx_none, HT.sIx_nat, List.drop_zero]
  rcases Nat.le_total n xs.length with h | h
  · rw [Nat.min_eq_left h]
    rfl
  · rw [Nat.min_eq_right h, List.take_of_length_le h]
    exact List.take_of_length_le (Nat.le_refl _)
theorem cut_drop (xs : List V) (n : Nat) : cutV xs (some (n : Int)) none = xs.drop n := by
  unfold cutV
  rw [HT.sIx_none, HT.sIx_nat]
  rcases Nat.le_total n xs.length with h | h
  · rw [Nat.min_eq_left h]
    exact List.take_of_length_le (by rw [List.length_drop]; omega)
  · rw [Nat.min_eq_right h, List.drop_length, List.drop_eq_nil_of_le h, List.take_nil]
theorem bits_lt {x : Int} {a : Nat} (h0 : 0 ≤ x) (h : x < 2 ^ a) : x.natAbs < 2 ^ a := by
  have e : ((x.natAbs : Nat) : Int) = x := Int.natAbs_of_nonneg h0
  have q : ((x.natAbs : Nat) : Int) < ((2 ^ a : Nat) : Int) := by
    rw [e]
    exact_mod_cast h
  exact_mod_cast q
/-- a mean by its rounds -/
def meanV (o : Nat → Int) (i n : Nat) : List V := [.int (ratN (topM o i n) (botM i n)), .int (ratD (topM o i n) (botM i n))]
def spHalves (K : PySem.W.Frag) : Sp := fun vs H Q _ => ∃ (a : Addr) (o : Nat → Int) (i n : Nat), vs = [.ref a, .int i] ∧ SqL K H a ((opensTo o n).map V.int) ∧ i < n ∧ n ≤ 400 ∧ (∀ k, 0 ≤ o k ∧ o k ≤ 1000) ∧
  ∀ (p : Addr) (H2 : Hp), Same H H2 → SqT K H2 p (meanV o i n) → Q (.ref p) H2
theorem ok_halves {f f1 f2 : Addr} {fd fd1 fd2 : FuncData} (F : Fun K "summed_by_halves" "summed_by_halves" s_summed_by_halves f fd) (F_fraction : Fun K "fraction" "fraction" s_fraction f1 fd1) (m_fraction : mg "fraction" = some (.ref f1)) (b_fraction : Binds K fd1 ["top", "bottom"] [])
    (F_weighed : Fun K "weighed" "weighed" s_weighed f2 fd2) (m_weighed : mg "weighed" = some (.ref f2)) (b_weighed : Binds K fd2 ["opens"] []) (T : Txt mg) : GFn P w K mg base CX0 2 f fd ["opens", "first"] (spHalves K) := by
  have G_fraction : GFn P w K mg base CX0 1 f1 fd1 ["top", "bottom"] (spRatio K) := ok_fraction F_fraction T
  have G_weighed : GFn P w K mg base CX0 1 f2 fd2 ["opens"] (spWeighed K) := ok_weighed F_weighed T
  refine gfun_ok F sc_summed_by_halves (fun vs H Q E h => ?_) (fun cdv A outer s H vs Q E hgu hr h => ?_)
  · obtain ⟨a, o, i, n, rfl, _⟩ := h
    rfl
  · obtain ⟨a, o, i, n, rfl, hS, hi, hn, ho, q⟩ := h
    have nd := sc_summed_by_halves.nd
    refine ⟨_, (pss_cons (ps_set (i := 2) nd rfl (Or.inl rfl) (pe_op op_sub (pe_callB (k_len (K := K)) (by rfl) T.len (by decide +kernel) (pa_cons (pv 0) pa_nil)) (pv 1)))
      (pss_cons (ps_set (i := 3) nd rfl (Or.inl rfl) (pe_g G_weighed hgu (hr.mono (by decide)) (by rfl) m_weighed F_weighed.kp b_weighed .nil pass0 (pa_cons (pe_slice (k_slL (K := K)) (pv 0) po_none (po_some (pv 1))) pa_nil)))
      (pss_cons (ps_set (i := 4) nd rfl (Or.inl rfl) (pe_op op_add (pe_op op_mulW (pe_op op_mulW (pv 3) (pe_op op_sub (pe_op op_oneShl pe_int (pv 2)) pe_int)) pe_int) (pe_op op_mulW (pe_g G_weighed hgu (hr.mono (by decide)) (by rfl) m_weighed F_weighed.kp b_weighed .nil pass0 (pa_cons (pe_slice (k_slL (K := K)) (pv 0) (po_some (pv 1)) po_none) pa_nil)) pe_int)))
      (pss_one (ps_ret (pe_g G_fraction hgu (hr.mono (by decide)) (by rfl) m_fraction F_fraction.kp b_fraction .nil pass0 (pa_cons (pv 4) (pa_cons (pe_op op_shlN (pe_op op_sub (pe_op op_oneShl pe_int (pv 2)) pe_int) (pv 1)) pa_nil)))))))), ?_⟩
    have ol : (opensTo o n).length = n := by simp [opensTo]
    have mem : ∀ x ∈ opensTo o n, 0 ≤ x ∧ x ≤ 1000 := by
      intro x hx
      obtain ⟨k, _, rfl⟩ := List.mem_map.mp hx
      exact ho k
    obtain ⟨a0, a1, b0, b1⟩ := top_in ho (by decide) (by decide) hi hn
    -- how many come round
    refine ⟨_, rfl, ⟨a, _, rfl, .inl hS, _, rfl, _, _, rfl, rfl, ?_⟩⟩
    have er : (n : Int) - (i : Int) = ((n - i : Nat) : Int) := by omega
    rw [List.length_map, ol]
    show tSeq _ _ _ [some (.ref a), some (.int i), some (.int ((n : Int) - (i : Int))), none, none] H
    rw [er]
    refine ⟨_, rfl, _, rfl, i, rfl, a, _, rfl, hS, fun p1 np1 => ?_⟩
    rw [cut_take, ← List.map_take]
    have s1 : Same H (upd H p1 (.lst (((opensTo o n).take i).map V.int))) := same_new np1
    have h1 : upd H p1 (.lst (((opensTo o n).take i).map V.int)) p1 = some (.lst (((opensTo o n).take i).map V.int)) := upd_same
    generalize upd H p1 (.lst (((opensTo o n).take i).map V.int)) = H1 at s1 h1 ⊢
    refine ⟨p1, _, rfl, SqL.of h1, by rw [List.length_take]; omega, fun x hx => mem x (List.mem_of_mem_take hx), ?_⟩
    have pw := pow_le400 (k := n - i) (by omega)
    have pi := pow_le400 (k := i) (by omega)
    generalize hA : weighed ((opensTo o n).take i) = Wa at a0 a1
    generalize hB : weighed ((opensTo o n).drop i) = Wb at b0 b1
    have c1 : CMulW Wa (2 ^ (n - i) - 1) := wide_mul (a := 500) (b := 500) (bits_lt a0 (Int.lt_of_le_of_lt a1 (by decide +kernel))) (bits_lt (by omega) (Int.lt_of_le_of_lt (show (2 : Int) ^ (n - i) - 1 ≤ 2 ^ 400 by omega) (by decide +kernel))) (by decide) (by decide) (by decide)
    have m0 : 0 ≤ Wa * (2 ^ (n - i) - 1) := Int.mul_nonneg a0 (by omega)
    have m1 : Wa * (2 ^ (n - i) - 1) ≤ 2 ^ 400 * 1000 * 2 ^ 400 := Int.le_trans (Int.mul_le_mul_of_nonneg_right a1 (by omega)) (Int.mul_le_mul_of_nonneg_left (by omega) (by decide +kernel))
    have m2 : Wa * (2 ^ (n - i) - 1) < 2 ^ 1000 := Int.lt_of_le_of_lt m1 (by decide +kernel)
    have c2 : CMulW (Wa * (2 ^ (n - i) - 1)) 2 := wide_mul (a := 1000) (b := 2) (bits_lt m0 m2) (by decide) (by decide) (by decide) (by decide)
    have c3 : CMulW Wb 2 := wide_mul (a := 500) (b := 2) (bits_lt b0 (Int.lt_of_le_of_lt b1 (by decide +kernel))) (by decide) (by decide) (by decide) (by decide)
    refine ⟨_, rfl, _, rfl, n - i, rfl, rfl, by omega, _, _, rfl, rfl, _, _, rfl, rfl, c1, _, _, rfl, rfl, c2, ?_⟩
    refine ⟨_, rfl, _, rfl, i, rfl, a, _, rfl, s1.seq hS, fun p2 np2 => ?_⟩
    rw [cut_drop, ← List.map_drop]
    have s2 : Same H (upd H1 p2 (.lst (((opensTo o n).drop i).map V.int))) := s1.trans (same_new np2)
    have h2 : upd H1 p2 (.lst (((opensTo o n).drop i).map V.int)) p2 = some (.lst (((opensTo o n).drop i).map V.int)) := upd_same
    generalize upd H1 p2 (.lst (((opensTo o n).drop i).map V.int)) = H2 at s2 h2 ⊢
    refine ⟨p2, _, rfl, SqL.of h2, by rw [List.length_drop]; omega, fun x hx => mem x (List.mem_of_mem_drop hx), ?_⟩
    rw [hB]
    refine ⟨_, _, rfl, rfl, c3, _, _, rfl, rfl, ?_⟩
    have et : topM o i n = Wa * (2 ^ (n - i) - 1) * 2 + Wb * 2 := by
      unfold topM
      rw [hA, hB]
    have cs : CShl (2 ^ (n - i) - 1) (i : Int) := by
      refine ⟨by omega, ?_⟩
      have z : PySem.Builtin.Int.intBits ((2 : Int) ^ (n - i) - 1) ≤ 500 := PySem.intBits_le_iff.mpr (bits_lt (by omega) (Int.lt_of_le_of_lt (show (2 : Int) ^ (n - i) - 1 ≤ 2 ^ 400 by omega) (by decide +kernel)))
      omega
    have one : (1 : Int) ≤ 2 ^ (n - i) - 1 := by
      have : (2 : Int) ^ 1 ≤ 2 ^ (n - i) := by
        have q : (2 : Nat) ^ 1 ≤ 2 ^ (n - i) := Nat.pow_le_pow_right (by decide) (by omega)
        exact_mod_cast q
      omega
    have bp : 0 < botM i n := Int.mul_pos (by omega) (by omega)
    have bl : botM i n ≤ 2 ^ 400 * 2 ^ 400 := Int.le_trans (Int.mul_le_mul_of_nonneg_right (show (2 : Int) ^ (n - i) - 1 ≤ 2 ^ 400 by omega) (by omega)) (Int.mul_le_mul_of_nonneg_left pi.2 (by decide +kernel))
    have tl : topM o i n ≤ 2 ^ 1000 * 2 + 2 ^ 400 * 1000 * 2 := by rw [et]; omega
    have t0 : 0 ≤ topM o i n := by rw [et]; omega
    refine ⟨_, rfl, _, rfl, n - i, rfl, rfl, by omega, _, _, rfl, rfl, _, rfl, _, i, rfl, rfl, cs, ?_⟩
    refine ⟨Wa * (2 ^ (n - i) - 1) * 2 + Wb * 2, botM i n, rfl, by omega, by rw [← et]; exact bits_lt t0 (Int.lt_of_le_of_lt tl (by decide +kernel)), bits_lt (by omega) (Int.lt_of_le_of_lt bl (by decide +kernel)), fun p H3 s3 h3 => ?_⟩
    rw [← et] at h3
    exact q p H3 (s2.trans s3) h3
end
end SG

/-! Data in which empty dicts stand, at any depth: its kind, its text. -/
namespace SG
open PySem PySem.Spec PyProof.Rows L2
mutual
/-- v is the data d, in which dicts are empty ones -/
inductive Dx (K : PySem.W.Frag) (H : Hp) : V → PyData → Prop
  | non : Dx K H .non .none
  | bl (b : Bool) : Dx K H (.bl b) (.bool b)
  | int (i : Int) : Dx K H (.int i) (.int i)
  | str (t : Str) : Dx K H (.str t) (.str t)
  | lst {p : Addr} {xs : List V} {es : List PyData} (hq : SqL K H p xs) (ha : DxAll K H xs es) : Dx K H (.ref p) (.list es)
  | tup {p : Addr} {xs : List V} {es : List PyData} (hq : SqT K H p xs) (ha : DxAll K H xs es) : Dx K H (.ref p) (.tuple es)
  | dct {p : Addr} (hp : H p = some (.dK [])) : Dx K H (.ref p) (.dict [])
inductive DxAll (K : PySem.W.Frag) (H : Hp) : List V → List PyData → Prop
  | nil : DxAll K H [] []
  | cons {x : V} {xs : List V} {e : PyData} {es : List PyData} (hx : Dx K H x e) (ht : DxAll K H xs es) : DxAll K H (x :: xs) (e :: es)
end
section
variable {K : PySem.W.Frag} {H H2 : Hp} {x : V} {d : PyData}
mutual
theorem dx_dp : ∀ {x : V} {d : PyData}, Dp K H x d → Dx K H x d
  | _, _, .non => .non
  | _, _, .bl b => .bl b
  | _, _, .int i => .int i
  | _, _, .str t => .str t
  | _, _, .lst q a => .lst q (dxA_dp a)
  | _, _, .tup q a => .tup q (dxA_dp a)
theorem dxA_dp : ∀ {xs : List V} {ds : List PyData}, DpAll K H xs ds → DxAll K H xs ds
  | _, _, .nil => .nil
  | _, _, .cons a b => .cons (dx_dp a) (dxA_dp b)
end
mutual
theorem dx_same (s : Same H H2) : ∀ {x : V} {d : PyData}, Dx K H x d → Dx K H2 x d
  | _, _, .non => .non
  | _, _, .bl b => .bl b
  | _, _, .int i => .int i
  | _, _, .str t => .str t
  | _, _, .lst q a => .lst (s.seq q) (dxA_same s a)
  | _, _, .tup q a => .tup (sameT s q) (dxA_same s a)
  | _, _, .dct h => .dct (s _ _ h)
theorem dxA_same (s : Same H H2) : ∀ {xs : List V} {ds : List PyData}, DxAll K H xs ds → DxAll K H2 xs ds
  | _, _, .nil => .nil
  | _, _, .cons a b => .cons (dx_same s a) (dxA_same s b)
end
theorem dx_ty (h : Dx K H x d) : TyX K H x (.type (kindOf d)) := by
  cases h with
  | non => exact .base .non
  | bl b => exact .base (.bl b)
  | int i => exact .base (.int i)
  | str s => exact .base (.str s)
  | dct h => exact .base (.dK h)
  | lst s _ =>
    rcases s with (s | ⟨o, s⟩) | ⟨o, vs, n, s, c, _⟩
    · exact .base (.lst s)
    · exact .base (.frz s)
    · exact .kList s c
  | tup s _ =>
    rcases s with (s | ⟨o, s⟩) | ⟨o, vs, n, s, c, _⟩
    · exact .base (.tup s)
    · exact .fTuple s
    · exact .kTuple s c
theorem dxA_len : ∀ {xs : List V} {ds : List PyData}, DxAll K H xs ds → xs.length = ds.length
  | _, _, .nil => rfl
  | _, _, .cons _ b => congrArg (· + 1) (dxA_len b)
theorem dxA_get : ∀ {xs : List V} {ds : List PyData} {i : Nat} {x : V}, DxAll K H xs ds → xs[i]? = some x → ∃ d, ds[i]? = some d ∧ Dx K H x d
  | _, _, _, _, .nil, e => by simp at e
  | _, _, 0, _, .cons a b, e => by
    simp at e
    subst e
    exact ⟨_, rfl, a⟩
  | _, _, i + 1, x, .cons a b, e => by
    obtain ⟨d, h1, h2⟩ := dxA_get (i := i) (x := x) b (by simpa using e)
    exact ⟨d, by simpa using h1, h2⟩
theorem dxA_app : ∀ {xs ys : List V} {ds es : List PyData}, DxAll K H xs ds → DxAll K H ys es → DxAll K H (xs ++ ys) (ds ++ es)
  | _, _, _, _, .nil, h => h
  | _, _, _, _, .cons a b, h => .cons a (dxA_app b h)
theorem dxA_take : ∀ {xs : List V} {ds : List PyData} (n : Nat), DxAll K H xs ds → DxAll K H (xs.take n) (ds.take n)
  | _, _, 0, _ => .nil
  | _, _, _ + 1, .nil => .nil
  | _, _, n + 1, .cons a b => .cons a (dxA_take n b)
theorem dxA_drop : ∀ {xs : List V} {ds : List PyData} (n : Nat), DxAll K H xs ds → DxAll K H (xs.drop n) (ds.drop n)
  | _, _, 0, h => h
  | _, _, _ + 1, .nil => .nil
  | _, _, n + 1, .cons a b => dxA_drop n b
theorem dxA_rev : ∀ {xs : List V} {ds : List PyData}, DxAll K H xs ds → DxAll K H xs.reverse ds.reverse
  | _, _, .nil => .nil
  | _, _, .cons a b => by
    rw [List.reverse_cons, List.reverse_cons]
    exact dxA_app (dxA_rev b) (.cons a .nil)
theorem dx_tuple {ds : List PyData} (h : Dx K H x (.tuple ds)) : ∃ a xs, x = .ref a ∧ SqT K H a xs ∧ DxAll K H xs ds := by
  cases h with
  | tup q a => exact ⟨_, _, rfl, q, a⟩
theorem kit_d (T : String) (p : PyData → Bool) (h : ∀ d, kitB (kindOf d) T = some (p d)) (d : PyData) : PySem.W.kitOne K (.type (kindOf d)) (.type T) = some (p d) := kit_ty (h d)
theorem isx_tuple (d : PyData) : PySem.W.kitOne K (.type (kindOf d)) (.type "tuple") = some (isTup d) := kit_d _ _ (fun d => by
  cases d with
  | none => exact (show kitB "NoneType" "tuple" = some false by decide +kernel)
  | bool _ => exact (show kitB "bool" "tuple" = some false by decide +kernel)
  | int _ => exact (show kitB "int" "tuple" = some false by decide +kernel)
  | str _ => exact (show kitB "str" "tuple" = some false by decide +kernel)
  | list _ => exact (show kitB "list" "tuple" = some false by decide +kernel)
  | tuple _ => exact (show kitB "tuple" "tuple" = some true by decide +kernel)
  | dict _ => exact (show kitB "dict" "tuple" = some false by decide +kernel)) d
theorem isx_int (d : PyData) : PySem.W.kitOne K (.type (kindOf d)) (.type "int") = some (isIntLike d) := kit_d _ _ (fun d => by
  cases d with
  | none => exact (show kitB "NoneType" "int" = some false by decide +kernel)
  | bool _ => exact (show kitB "bool" "int" = some true by decide +kernel)
  | int _ => exact (show kitB "int" "int" = some true by decide +kernel)
  | str _ => exact (show kitB "str" "int" = some false by decide +kernel)
  | list _ => exact (show kitB "list" "int" = some false by decide +kernel)
  | tuple _ => exact (show kitB "tuple" "int" = some false by decide +kernel)
  | dict _ => exact (show kitB "dict" "int" = some false by decide +kernel)) d
theorem isx_bool (d : PyData) : PySem.W.kitOne K (.type (kindOf d)) (.type "bool") = some (isBool d) := kit_d _ _ (fun d => by
  cases d with
  | none => exact (show kitB "NoneType" "bool" = some false by decide +kernel)
  | bool _ => exact (show kitB "bool" "bool" = some true by decide +kernel)
  | int _ => exact (show kitB "int" "bool" = some false by decide +kernel)
  | str _ => exact (show kitB "str" "bool" = some false by decide +kernel)
  | list _ => exact (show kitB "list" "bool" = some false by decide +kernel)
  | tuple _ => exact (show kitB "tuple" "bool" = some false by decide +kernel)
  | dict _ => exact (show kitB "dict" "bool" = some false by decide +kernel)) d
def isStrD : PyData → Bool
  | .str _ => true
  | _ => false
theorem isx_str (d : PyData) : PySem.W.kitOne K (.type (kindOf d)) (.type "str") = some (isStrD d) := kit_d _ _ (fun d => by
  cases d with
  | none => exact (show kitB "NoneType" "str" = some false by decide +kernel)
  | bool _ => exact (show kitB "bool" "str" = some false by decide +kernel)
  | int _ => exact (show kitB "int" "str" = some false by decide +kernel)
  | str _ => exact (show kitB "str" "str" = some true by decide +kernel)
  | list _ => exact (show kitB "list" "str" = some false by decide +kernel)
  | tuple _ => exact (show kitB "tuple" "str" = some false by decide +kernel)
  | dict _ => exact (show kitB "dict" "str" = some false by decide +kernel)) d
end
/-! ### its text -/
mutual
/-- ints of at most 4300 figures, no dict but empty ones -/
def tellE : PyData → Bool
  | .int i => decide (i.natAbs < 10 ^ 4300)
  | .list xs => tellEAll xs
  | .tuple xs => tellEAll xs
  | .dict kvs => kvs.isEmpty
  | .none => true
  | .bool _ => true
  | .str _ => true
def tellEAll : List PyData → Bool
  | [] => true
  | x :: xs => tellE x && tellEAll xs
end
section
variable {X : Cx} {pins : List (Addr × Obj)} {σ : L2.St} {H : Hp} {s : Shared}
theorem dct_at {a : Addr} (I : Inv X pins σ H s) (ha : H a = some (.dK [])) : (a == sysModules) = false ∧ ∃ o n, s.heap.get? a = some o ∧ o.cls = .type "dict" ∧ o.data = .dict #[] n := by
  obtain ⟨_, hs, vs, kv, o, es, ep, e1, e2, e3, e4, e5, _⟩ := I.hok a _ ha
  cases kv
  have e6 : es = #[] := by
    cases es with
    | mk l => cases l with
      | nil => rfl
      | cons y l => cases e5
  subst e6
  exact ⟨hs, o, ep, e1, e2.1, e3⟩
mutual
theorem dx_told (hn : s.heap.NoDigits) (I : Inv X pins σ H s) : ∀ (d : PyData) (v : V) (u : Value), Dx X.K H v d → RelV v u →
    ∃ as, Reads s.heap u d as ∧ (tellE d = true → d.shown.length ≤ sizeLine → ∃ bs, ReadAtMost s.heap d.depth bs ∧ ReprK X.prog X.w bs s.heap d.depth u d.shown)
  | .none, _, _, h, r => by
    cases h
    cases r
    exact ⟨_, .none, fun _ _ => ⟨[], (fun _ h => nomatch h), by simp only [PyData.shown]; exact .of_is ReprIs.none _ _ _⟩⟩
  | .bool b, _, _, h, r => by
    cases h
    cases r
    exact ⟨_, .bool b, fun _ _ => ⟨[], (fun _ h => nomatch h), by simp only [PyData.shown]; exact .of_is (ReprIs.bool b) _ _ _⟩⟩
  | .int i, _, _, h, r => by
    cases h
    obtain ⟨t, rfl⟩ := r
    exact ⟨_, .int i t, fun ht _ => ⟨[], (fun _ h => nomatch h), by simp only [PyData.shown]; exact reprK_int hn (of_decide_eq_true (by simpa only [tellE] using ht)) _⟩⟩
  | .str x, _, _, h, r => by
    cases h
    obtain ⟨t, rfl⟩ := r
    exact ⟨_, .str x t, fun _ hz => ⟨[], (fun _ h => nomatch h), by simp only [PyData.shown] at hz ⊢; exact .of_is (ReprIs.str x t hz) _ _ _⟩⟩
  | .list ds, _, _, h, r => by
    cases h with
    | lst hs ha =>
      rename_i p xs
      cases r
      obtain ⟨its, rv, ⟨o, n, ho, hc, hw, hd⟩, _⟩ := I.list hs
      obtain ⟨as, q4, hk⟩ := dxA_told hn I ds _ its ha rv
      have whole : Reads s.heap (.ref p) (.list ds) _ := .list ho hc hd q4
      refine ⟨_, whole, fun ht hz => ?_⟩
      have hz2 : (listText (PyData.shownAll ds)).length ≤ sizeLine := by simpa only [PyData.shown] using hz
      obtain ⟨bs, rb, kb⟩ := hk (by simpa only [tellE] using ht) fun t m => Nat.le_trans (listText_mem_le m) hz2
      refine ⟨p :: bs, ReadAtMost.cons whole (by simp only [PyData.depth]; omega) rb, ?_⟩
      have notIn : p ∉ bs := not_mem_of_deeper whole (by simp only [PyData.depth]; omega) rb
      simp only [PyData.depth, PyData.shown]
      cases its with
      | nil =>
        cases q4
        simp only [PyData.shownAll, listText_nil]
        exact ReprK.listEmpty ho hc hd
      | cons y l => exact ReprK.list ho hc hd notIn (by simpa using kb.length_eq) fun i y e => kb.item i y (by simpa using e)
  | .tuple ds, _, _, h, r => by
    cases h with
    | tup hs ha =>
      rename_i p xs
      cases r
      obtain ⟨its, rv, ⟨o, ho, hc, n, hd⟩, _⟩ := I.tuple hs
      obtain ⟨as, q4, hk⟩ := dxA_told hn I ds _ its ha rv
      have whole : Reads s.heap (.ref p) (.tuple ds) _ := .tuple ho hc hd q4
      refine ⟨_, whole, fun ht hz => ?_⟩
      have hz2 : (tupleText (PyData.shownAll ds)).length ≤ sizeLine := by simpa only [PyData.shown] using hz
      obtain ⟨bs, rb, kb⟩ := hk (by simpa only [tellE] using ht) fun t m => Nat.le_trans (tupleText_mem_le m) hz2
      refine ⟨p :: bs, ReadAtMost.cons whole (by simp only [PyData.depth]; omega) rb, ?_⟩
      have notIn : p ∉ bs := not_mem_of_deeper whole (by simp only [PyData.depth]; omega) rb
      simp only [PyData.depth, PyData.shown]
      exact ReprK.tuple ho hc hd notIn (by simpa using kb)
  | .dict kvs, _, _, h, r => by
    cases h with
    | dct hp =>
      rename_i p
      cases r
      obtain ⟨hs, o, n, h1, h2, h3⟩ := dct_at I hp
      have whole : Reads s.heap (.ref p) (.dict []) ([p] ++ []) := .dict (as := []) (bs := []) h1 h2 h3 .nil .nil
      refine ⟨_, whole, fun _ _ => ⟨[p], ReadAtMost.cons whole (Nat.le_refl _) (fun _ h => nomatch h), ?_⟩⟩
      have z := ReprK.dict (prog := X.prog) (w := X.w) (as := []) (d := 0) (ps := []) h1 h2 h3 hs (by simp) .nil
      simp only [PyData.depth, PyData.depthKv, PyData.shown, PyData.shownKv]
      exact z
theorem dxA_told (hn : s.heap.NoDigits) (I : Inv X pins σ H s) : ∀ (ds : List PyData) (vs : List V) (us : List Value), DxAll X.K H vs ds → Vals vs us →
    ∃ as, ReadsAll s.heap us ds as ∧ (tellEAll ds = true → (∀ t ∈ PyData.shownAll ds, t.length ≤ sizeLine) → ∃ bs, ReadAtMost s.heap (PyData.depthAll ds) bs ∧ ReprAllK X.prog X.w bs s.heap (PyData.depthAll ds) us (PyData.shownAll ds))
  | [], _, _, h, r => by
    cases h
    cases r
    exact ⟨_, .nil, fun _ _ => ⟨[], (fun _ h => nomatch h), by simp only [PyData.shownAll]; exact .nil⟩⟩
  | d :: ds, _, _, h, r => by
    cases h with
    | cons h1 h2 =>
      cases r with
      | cons r1 r2 =>
        obtain ⟨as1, q1, k1⟩ := dx_told hn I d _ _ h1 r1
        obtain ⟨as2, q2, k2⟩ := dxA_told hn I ds _ _ h2 r2
        refine ⟨_, .cons q1 q2, fun ht hz => ?_⟩
        have ht2 : tellE d = true ∧ tellEAll ds = true := by simpa only [tellEAll, Bool.and_eq_true] using ht
        obtain ⟨c1, rc1, e1⟩ := k1 ht2.1 (hz _ (by simp only [PyData.shownAll]; exact List.mem_cons_self))
        obtain ⟨c2, rc2, e2⟩ := k2 ht2.2 fun t m => hz t (by simp only [PyData.shownAll]; exact List.mem_cons_of_mem _ m)
        refine ⟨c1 ++ c2, (rc1.mono ?_).append (rc2.mono ?_), ?_⟩
        · simp only [PyData.depthAll]; exact Nat.le_max_left _ _
        · simp only [PyData.depthAll]; exact Nat.le_max_right _ _
        · simp only [PyData.depthAll, PyData.shownAll]
          exact .cons ((e1.more fun b m => List.mem_append_left _ m).level_le (Nat.le_max_left _ _)) (e2.more_le (fun b m => List.mem_append_right _ m) (Nat.le_max_right _ _))
end
end
section
variable {X : Cx}
def rReprX (K : PySem.W.Frag) : List V → Hp → VK → Prop := fun xs Hx R => ∃ x d, xs = [x] ∧ Dx K Hx x d ∧ tellE d = true ∧ d.depth ≤ 60 ∧ d.shown.length ≤ sizeLine ∧ R (.str d.shown) Hx
theorem call_reprX (hn : X.base.NoDigits) (hg : X.A.guards = some []) {k : Nat} (hr : Room k X.A) : CallR X (.builtin "repr") (rReprX X.K) := by
  intro pins st σ Hx xs us R I rv h
  obtain ⟨x, d, rfl, hd, ht, hdep, hz, q⟩ := h
  obtain ⟨u, rfl, rx⟩ : ∃ u, us = [u] ∧ RelV x u := by
    cases rv with
    | cons a b => cases b; exact ⟨_, rfl, a⟩
  have hu := hr.units
  have ndig := digs hn I
  cases hd with
  | non =>
    obtain rfl : u = Value.none := rx
    simp only [PyData.shown] at q
    exact PySem.P.repr_of_none ⟨.str _, Hx, I.tok _, ⟨_, rfl⟩, q⟩
  | bl b =>
    obtain rfl : u = Value.bool b := rx
    simp only [PyData.shown] at q
    exact PySem.P.repr_of_bool ⟨.str _, Hx, I.tok _, ⟨_, rfl⟩, q⟩
  | int i =>
    obtain ⟨t, rfl⟩ := rx
    simp only [PyData.shown] at q
    exact int_repr (by omega) ndig (of_decide_eq_true (by simpa only [tellE] using ht)) ⟨.str _, Hx, I.tok _, ⟨_, rfl⟩, q⟩
  | str y =>
    obtain ⟨t, rfl⟩ := rx
    simp only [PyData.shown] at q hz
    exact PySem.P.repr_of_str ⟨.str _, Hx, I.tok _, ⟨_, rfl⟩, q⟩ hz
  | dct hp =>
    rename_i p
    obtain rfl : u = Value.ref p := rx
    obtain ⟨hs, o, n, h1, h2, h3⟩ := dct_at I hp
    have e : PyData.shown (.dict []) = "{}" := by decide +kernel
    rw [e] at q
    exact repr_dict0 h1 h2 h3 hs hg (by omega) fun h2 u tk hk => ⟨.str _, Hx, I.kept (t' := tk) hk, ⟨_, rfl⟩, q⟩
  | lst hs ha =>
    rename_i p xs ds
    obtain rfl : u = Value.ref p := rx
    obtain ⟨its, rv, ⟨o, n, ho, hc, hw, hd⟩, _⟩ := I.list hs
    obtain ⟨as, q4, hk⟩ := dxA_told ndig I ds _ its ha rv
    have whole : Reads st.heap (.ref p) (.list ds) _ := .list ho hc hd q4
    simp only [PyData.depth] at hdep
    simp only [PyData.shown] at q hz
    obtain ⟨bs, rb, kb⟩ := hk (by simpa only [tellE] using ht) fun t m => Nat.le_trans (listText_mem_le m) hz
    have notIn : p ∉ bs := not_mem_of_deeper whole (by simp only [PyData.depth]; omega) rb
    refine call_repr_slot (by omega) ⟨o, ho, hc⟩ F.slot_list_repr.toG ?_
    cases its with
    | nil =>
      cases q4
      simp only [PyData.shownAll, listText_nil] at q
      exact call_list_repr_empty ⟨o, ho, hc⟩ ho hd ⟨_, _, rfl, ⟨.str _, Hx, I.tok _, ⟨_, rfl⟩, q⟩⟩
    | cons y l => exact call_list_reprK ho hc hd notIn (by simpa using kb.length_eq) (fun i y e => kb.item i y (by simpa using e)) hg (fun b _ => Clear.nil b) (by show X.A.units + 1 + _ < _; omega) (fun _ _ e => e) (fun h2 u tk hk => ⟨_, _, rfl, ⟨.str _, Hx, I.kept (t' := tk) hk, ⟨_, rfl⟩, q⟩⟩) hz
  | tup hs ha =>
    rename_i p xs ds
    obtain rfl : u = Value.ref p := rx
    obtain ⟨its, rv, ⟨o, ho, hc, n, hd⟩, _⟩ := I.tuple hs
    obtain ⟨as, q4, hk⟩ := dxA_told ndig I ds _ its ha rv
    have whole : Reads st.heap (.ref p) (.tuple ds) _ := .tuple ho hc hd q4
    simp only [PyData.depth] at hdep
    simp only [PyData.shown] at q hz
    obtain ⟨bs, rb, kb⟩ := hk (by simpa only [tellE] using ht) fun t m => Nat.le_trans (tupleText_mem_le m) hz
    have notIn : p ∉ bs := not_mem_of_deeper whole (by simp only [PyData.depth]; omega) rb
    refine call_repr_slot (by omega) ⟨o, ho, hc⟩ F.slot_tuple_repr ?_
    exact call_tuple_reprK ho hc hd notIn (by simpa using kb) hg (fun b _ => Clear.nil b) (by show X.A.units + 1 + _ < _; omega) (fun _ _ e => e) (fun h2 u tk hk => ⟨_, _, rfl, ⟨.str _, Hx, I.kept (t' := tk) hk, ⟨_, rfl⟩, q⟩⟩) hz
theorem k_reprX {K : PySem.W.Frag} {k : Nat} (hn : X.base.NoDigits) (hg : X.A.guards = some []) (hr : Room k X.A) (e : X.K = K := by rfl) : CallR X (.builtin "repr") (rReprX K) := e ▸ call_reprX hn hg hr
end
end SG

/-! Comparing with an empty list or tuple, whatever is held; whole numbers and truths put together with one. -/
namespace SG
open PySem PySem.Spec PyProof.Rows L2
section
variable {X : Cx}
/-- both lists, or both tuples, the second one empty -/
def NilPair (K : PySem.W.Frag) (H : Hp) (a b : Addr) (xs : List V) : Prop := (SqT K H a xs ∧ SqT K H b []) ∨ (SqL K H a xs ∧ SqL K H b [])
def rEqE (K : PySem.W.Frag) : R2 := fun x y H Q => ∃ a b xs, x = .ref a ∧ y = .ref b ∧ NilPair K H a b xs ∧ Q (.bl xs.isEmpty) H
def rNeE (K : PySem.W.Frag) : R2 := fun x y H Q => ∃ a b xs, x = .ref a ∧ y = .ref b ∧ NilPair K H a b xs ∧ Q (.bl (!xs.isEmpty)) H
theorem size_of_vals {xs : List V} {us : List Value} (r : Vals xs us) : us.toArray.size = xs.length := by rw [List.size_toArray, r.length]
theorem vals_nil {us : List Value} (r : Vals [] us) : us = [] := by cases r; rfl
theorem op_eqE (hu : X.A.units < cLine) : OpR X (compareOp .Eq) (rEqE X.K) := by
  intro pins s σ H x y v u Q I rx ry h
  obtain ⟨a, b, xs, rfl, rfl, h, q⟩ := h
  cases rx
  cases ry
  rcases h with ⟨ha, hb⟩ | ⟨ha, hb⟩
  · obtain ⟨is1, r1, p1, _⟩ := I.tuple ha
    obtain ⟨is2, r2, p2, _⟩ := I.tuple hb
    obtain rfl := vals_nil r2
    have e := size_of_vals r1
    refine SeqAt.eq_tupleAt p1 p2 hu (e := fun _ => true) (fun j _ h2 => absurd h2 (by simp)) ⟨.bl xs.isEmpty, H, I, ?_, q⟩
    show Value.bool _ = Value.bool _
    congr 1
    rw [e]
    cases xs <;> simp
  · obtain ⟨is1, r1, p1, _⟩ := I.list ha
    obtain ⟨is2, r2, p2, _⟩ := I.list hb
    obtain rfl := vals_nil r2
    have e := size_of_vals r1
    cases xs with
    | nil => exact SeqAt.eq_listAt p1.isList p2.isList (by rw [e]; rfl) hu (e := fun _ => true) (fun j _ h2 => absurd h2 (by simp)) ⟨.bl true, H, I, by rw [e]; rfl, q⟩
    | cons z zs => exact SeqAt.eq_list_lengthsAt p1.isList p2.isList (by rw [e]; simp) hu ⟨.bl false, H, I, rfl, q⟩
theorem op_neE (hu : X.A.units < cLine) : OpR X (compareOp .NotEq) (rNeE X.K) := by
  intro pins s σ H x y v u Q I rx ry h
  obtain ⟨a, b, xs, rfl, rfl, h, q⟩ := h
  cases rx
  cases ry
  rcases h with ⟨ha, hb⟩ | ⟨ha, hb⟩
  · obtain ⟨is1, r1, p1, _⟩ := I.tuple ha
    obtain ⟨is2, r2, p2, _⟩ := I.tuple hb
    obtain rfl := vals_nil r2
    have e := size_of_vals r1
    refine SeqAt.RcNeAt.tuples p1 p2 hu (e := fun _ => true) (fun j _ h2 => absurd h2 (by simp)) X.prog X.w X.xe _ ⟨.bl (!xs.isEmpty), H, I, ?_, q⟩
    show Value.bool _ = Value.bool _
    congr 1
    rw [e]
    cases xs <;> simp
  · obtain ⟨is1, r1, p1, _⟩ := I.list ha
    obtain ⟨is2, r2, p2, _⟩ := I.list hb
    obtain rfl := vals_nil r2
    have e := size_of_vals r1
    cases xs with
    | nil => exact SeqAt.RcNeAt.lists p1.isList p2.isList (by rw [e]; rfl) hu (e := fun _ => true) (fun j _ h2 => absurd h2 (by simp)) X.prog X.w X.xe _ ⟨.bl false, H, I, by rw [e]; rfl, q⟩
    | cons z zs => exact SeqAt.RcNeAt.lists_lengths p1.isList p2.isList (by rw [e]; simp) hu X.prog X.w X.xe _ ⟨.bl true, H, I, rfl, q⟩
theorem k_eqE {K : PySem.W.Frag} (hu : X.A.units + 64 < cLine) (e : X.K = K := by rfl) : OpR X (compareOp .Eq) (rEqE K) := e ▸ op_eqE (by omega)
theorem k_neE {K : PySem.W.Frag} (hu : X.A.units + 64 < cLine) (e : X.K = K := by rfl) : OpR X (compareOp .NotEq) (rNeE K) := e ▸ op_neE (by omega)
/-! ### whole numbers and truths -/
/-- the number that a whole number, or a truth, counts as -/
def num : PyData → Int
  | .int i => i
  | .bool b => if b = true then 1 else 0
  | _ => 0
/-- x is the whole number or truth d -/
def NumV (x : V) (d : PyData) : Prop := (∃ i, x = .int i ∧ d = .int i) ∨ (∃ b, x = .bl b ∧ d = .bool b)
def rAddN : R2 := fun x y H Q => ∃ d j, NumV x d ∧ y = .int j ∧ Q (.int (num d + j)) H
def rSubN : R2 := fun x y H Q => ∃ d j, NumV x d ∧ y = .int j ∧ Q (.int (num d - j)) H
def rEqN : R2 := fun x y H Q => ∃ d j, NumV x d ∧ y = .int j ∧ Q (.bl (num d == j)) H
theorem op_addN : OpR X (binaryOp .Add) rAddN := by
  intro pins s σ H x y v u Q I rx ry h
  obtain ⟨d, j, hx, rfl, q⟩ := h
  obtain ⟨t, rfl⟩ := ry
  rcases hx with ⟨i, rfl, rfl⟩ | ⟨b, rfl, rfl⟩
  · obtain ⟨t1, rfl⟩ := rx
    exact add_int ⟨.int (i + j), H, I.tok _, ⟨_, rfl⟩, q⟩
  · cases rx
    exact IntBool.add_bool_int ⟨.int _, H, I.tok _, ⟨_, rfl⟩, q⟩
theorem op_subN : OpR X (binaryOp .Sub) rSubN := by
  intro pins s σ H x y v u Q I rx ry h
  obtain ⟨d, j, hx, rfl, q⟩ := h
  obtain ⟨t, rfl⟩ := ry
  rcases hx with ⟨i, rfl, rfl⟩ | ⟨b, rfl, rfl⟩
  · obtain ⟨t1, rfl⟩ := rx
    exact sub_int ⟨.int (i - j), H, I.tok _, ⟨_, rfl⟩, q⟩
  · cases rx
    exact IntBool.sub_bool_int ⟨.int _, H, I.tok _, ⟨_, rfl⟩, q⟩
theorem op_eqN : OpR X (compareOp .Eq) rEqN := by
  intro pins s σ H x y v u Q I rx ry h
  obtain ⟨d, j, hx, rfl, q⟩ := h
  obtain ⟨t, rfl⟩ := ry
  rcases hx with ⟨i, rfl, rfl⟩ | ⟨b, rfl, rfl⟩
  · obtain ⟨t1, rfl⟩ := rx
    exact SeqAt.RcAt.int_int i t1 j t X.prog X.w X.xe _ ⟨.bl _, H, I, rfl, q⟩
  · cases rx
    exact SeqAt.RcAt.bool_int b j t X.prog X.w X.xe _ ⟨.bl _, H, I, rfl, q⟩
/-- str of a whole number or a truth -/
def numT : PyData → Str
  | .int i => Str.ofString (toString i)
  | .bool b => if b = true then "True" else "False"
  | _ => ""
def rStrN : List V → Hp → VK → Prop := fun xs H Q => ∃ x d, xs = [x] ∧ NumV x d ∧ (num d).natAbs.log2 < 1920 ∧ Q (.str (numT d)) H
theorem call_strN : CallR X (.type "str") rStrN := by
  intro pins s σ H xs us Q I r h
  obtain ⟨x, d, rfl, hx, hl, q⟩ := h
  rcases hx with ⟨i, rfl, rfl⟩ | ⟨b, rfl, rfl⟩
  · exact call_str_int pins s σ H [.int i] us Q I r ⟨i, rfl, hl, q⟩
  · obtain ⟨u, rfl, rx⟩ : ∃ u, us = [u] ∧ RelV (.bl b) u := by
      cases r with
      | cons a c => cases c; exact ⟨_, rfl, a⟩
    cases rx
    exact PySem.P.str_of_bool ⟨.str _, H, I.tok _, ⟨_, rfl⟩, q⟩
end
end SG

/-! Turned round: a tuple or a text; a text twice. -/
namespace SG
open PySem PySem.Spec PyProof.Rows L2
section
variable {prog : Program} {w : World} {A : Around} {Er : Value → Shared → Prop} {s : Shared}
theorem turn_idx {α : Type} (xs : Array α) : (List.range xs.size).filterMap (fun (j : Nat) => xs[(((xs.size : Int) - 1) + (j : Int) * (-1)).toNat]?) = xs.toList.reverse := by
  have e : (fun (j : Nat) => xs[(((xs.size : Int) - 1) + (j : Int) * (-1)).toNat]?) = (fun j => xs[j]?) ∘ fun j : Nat => ((((xs.size : Int) - 1) + (j : Int) * (-1)).toNat) := rfl
  have m : (List.range xs.size).map (fun j : Nat => ((((xs.size : Int) - 1) + (j : Int) * (-1)).toNat)) = (List.range xs.size).map fun j => xs.size - 1 - j := by
    apply List.map_congr_left
    intro j hj
    have := List.mem_range.mp hj
    omega
  rw [e, ← List.filterMap_map, m, PySem.W.krv_range, List.filterMap_reverse, PySem.W.krv_all]
theorem turn_applied {sl : Addr} {vl vu vs : Value} {n : Nat} {Q : Int × Int × Nat → Shared → Prop} (hs : s.heap.IsSliceOf sl vl vu vs) (pl : IsPart vl none) (pu : IsPart vu none) (ps : IsPart vs (some (-1)))
    (h : Q ((n : Int) - 1, -1, n) s) : wpAny (model prog w) A (Builtin.Slice.sliceApplied (.ref sl) (pure (n : Int))) Q Er s := by
  obtain ⟨ob, g1, g2, g3⟩ := id hs
  unfold Builtin.Slice.sliceApplied Builtin.Slice.sliceFields
  refine wpAny_bind (wpAny_bind (wpAny_field g1 g3 (x := vl) rfl (wpAny_bind (wpAny_field g1 g3 (x := vu) rfl (wpAny_bind (wpAny_field g1 g3 (x := vs) rfl (wpAny_pure ?_)))))))
  refine wpAny_bind (HT.slicePart_ ps ?_)
  show wpAny _ _ (if ((-1 : Int) == 0) = true then _ else _) _ _ s
  rw [if_neg (by decide)]
  refine wpAny_bind (HT.slicePart_ pl (wpAny_bind (HT.slicePart_ pu (wpAny_bind (wpAny_pure ?_)))))
  show wpAny _ _ (match Builtin.Slice.sliceAdjust none none (-1) (n : Int) with | (lo, hi) => pure (lo, (-1 : Int), Builtin.Slice.slicePlaces lo hi (-1))) _ _ s
  have e1 : Builtin.Slice.sliceAdjust none none (-1) (n : Int) = ((n : Int) - 1, -1) := by
    unfold Builtin.Slice.sliceAdjust
    simp
  rw [e1]
  show wpAny _ _ (pure ((n : Int) - 1, (-1 : Int), Builtin.Slice.slicePlaces ((n : Int) - 1) (-1) (-1))) _ _ s
  have e2 : Builtin.Slice.slicePlaces ((n : Int) - 1) (-1) (-1) = n := by
    unfold Builtin.Slice.slicePlaces
    rw [if_neg (show ¬ ((-1 : Int) > 0) by decide)]
    by_cases hn : n = 0
    · subst hn
      simp
    · rw [if_pos (show (n : Int) - 1 > -1 by omega)]
      have : ((n : Int) - 1 - -1 - 1) / (- -1) = (n : Int) - 1 := by
        rw [show (- -1 : Int) = 1 by decide, Int.ediv_one]
        omega
      omega
  rw [e2]
  exact wpAny_pure h
theorem getItem_tuple_turn {t sl : Addr} {its : Array Value} {vl vu vs : Value} {Q : Value → Shared → Prop} (ht : IsTup s.heap t its) (hs : s.heap.IsSliceOf sl vl vu vs) (pl : IsPart vl none) (pu : IsPart vu none) (ps : IsPart vs (some (-1)))
    (hz : its.size ≤ sizeLine) (h : Q (.ref s.heap.objs.size) { s with heap := s.heap.push { cls := .type "tuple", data := .seq its.toList.reverse.toArray } }) : wpAny (model prog w) A (getItem (.ref t) (.ref sl)) Q Er s := by
  obtain ⟨ob, g1, g2, g3⟩ := id hs
  have hT : s.TypeIs (.ref sl) "slice" := ⟨ob, g1, g2⟩
  unfold getItem
  (try with_reducible refine wpAny_holding ?_); (first | refine wpAny_bind (wpAny_pure ?_) | skip)
  refine' wpAny_bind (wpAny_sequenceKey ht.typeIs (by decide) ?_)
  refine wpAny_bind (wpAny_callSpecial?_slot (name := Str.ofString "__getitem__") ht.typeIs PyProof.Rows.slot_tuple_getitem (wpAny_call_entry PyProof.Rows.slot_tuple_getitem ht.typeIs entry_tuple_getitem ?_ (args_tuple_getitem _ _)))
  show wpAny (model prog w) _ (Builtin.Tuple.tupleItemsOf (.ref t) >>= _) _ _ s
  refine' wpAny_bind (tupleItemsOf_ ht (wpAny_bind (wpAny_typeOf hT ?_)))
  rw [if_pos (by decide)]
  refine wpAny_bind (turn_applied hs pl pu ps ?_)
  have hno : ¬ ((((its.size : Int) - 1) == 0 && (-1 : Int) == 1 && its.size == its.size) = true) := by simp
  show wpAny _ _ (if (((its.size : Int) - 1) == 0 && (-1 : Int) == 1 && its.size == its.size) = true then _ else _) _ _ s
  rw [if_neg hno, turn_idx]
  have hsz : sizeOk (.seq its.toList.reverse.toArray) := by
    show its.toList.reverse.toArray.size ≤ sizeLine
    rw [List.size_toArray, List.length_reverse, Array.length_toList]
    exact hz
  have fin := h
  first
    | exact wpAny_bind (m := Builtin.Tuple.tupleExact _) (wpAny_newObj_type (wpAny_pure ⟨_, rfl, wpAny_pure fin⟩) hsz)
    | exact wpAny_bind (m := Builtin.Tuple.tupleExact _) (wpAny_newObj_type (wpAny_bind (wpAny_pure (wpAny_pure ⟨_, rfl, wpAny_pure fin⟩))) hsz)
    | exact wpAny_bind (wpAny_bind (m := Builtin.Tuple.tupleExact _) (wpAny_newObj_type (wpAny_pure (wpAny_pure ⟨_, rfl, wpAny_pure fin⟩)) hsz))
    | exact wpAny_bind (wpAny_bind (m := Builtin.Tuple.tupleExact _) (wpAny_newObj_type (wpAny_pure ⟨_, rfl, wpAny_pure fin⟩) hsz))
end
section
variable {X : Cx}
/-- a tuple or a text turned round -/
def tRevX (K : PySem.W.Frag) (te : TE) : TE := fun σ H Q => te σ H fun x H1 => (∃ a xs, x = .ref a ∧ SqT K H1 a xs ∧ ∀ p, H1 p = none → Q (.ref p) (upd H1 p (.tup xs.reverse))) ∨
  (∃ z : Str, x = .str z ∧ z.length ≤ 100000 ∧ ∀ z2 : Str, z2.cps.toList = z.cps.toList.reverse → Q (.str z2) H1)
theorem pe_revX {K : PySem.W.Frag} {e : Expr} {te : TE} {k : Nat} {p1 p2 p3 pos : Pos} (he : PE X e te) (eK : X.K = K := by rfl) :
    PE X (.Subscript e (.Slice none none (some (.UnaryOp .USub (.Constant (.int 1) k p1) p2)) p3) pos) (tRevX K te) := by
  subst eK
  refine ⟨fun pins s σ H Q I h => ?_⟩
  refine Subscript_ (thn (he.run pins s σ H _ I h) fun v s1 ⟨x, H1, I1, r1, q1⟩ => ?_)
  have hstep : PO X (some (.UnaryOp .USub (.Constant (.int 1) k p1) p2)) (tPart (tUn (rU fun i => .int (-i)) (tC (.int 1)))) := po_some (pe_un un_neg pe_int)
  refine wpAny_Slice (thn (po_none.run pins s1 σ H1 (fun o Ha => o = none ∧ Ha = H1) I1 ⟨rfl, rfl⟩) fun vl s2 ⟨lo, H2, I2, pl, e1, e2⟩ => ?_)
  subst e1 e2
  refine thn (po_none.run pins s2 σ H2 (fun o Ha => o = none ∧ Ha = H2) I2 ⟨rfl, rfl⟩) fun vu s3 ⟨hi, H3, I3, pu, e3, e4⟩ => ?_
  subst e3 e4
  refine thn (hstep.run pins s3 σ H3 (fun o Ha => o = some (-1) ∧ Ha = H3) I3 ⟨1, rfl, -1, rfl, rfl, rfl⟩) fun vs s4 ⟨o, H4, I4, ps, e5, e6⟩ => ?_
  subst e5 e6
  have I5 : Inv X pins σ H4 { s4 with heap := s4.heap.push { cls := .type "slice", data := .fields #[vl, vu, vs] } } := I4.kept (t' := s4.toks) fun b ob q => Heap.get?_push_of_some _ q
  rcases q1 with ⟨a, xs, ex, hx, q⟩ | ⟨z, ex, hz, q⟩
  · subst ex
    cases r1
    obtain ⟨its, r, ht, hz⟩ := I5.tuple hx
    have hlen := r.length
    refine PyProof.Rows.tail_any (ops := [.ref a, .ref s4.heap.objs.size]) ht.typeIs PyProof.Rows.slot_tuple_getitem.lookup ?_ (by with_unfolding_all rfl)
    refine getItem_tuple_turn ht (Heap.IsSliceOf.new _ vl vu vs) pl pu ps (by rw [List.size_toArray]; omega) ?_
    refine ⟨.ref _, _, I5.laid (t' := s4.toks) (o := .tup xs.reverse) (fun b ob q => Heap.get?_push_of_some _ q) (Nat.le_refl _) ?_, rfl, q _ (I5.hok.fresh (Nat.le_refl _))⟩
    exact ⟨by rw [List.length_reverse]; exact hz, _, r.reverse, IsTup.new _ _⟩
  · subst ex
    obtain ⟨t, rfl⟩ := r1
    have hsl : ({ s4 with heap := s4.heap.push { cls := .type "slice", data := .fields #[vl, vu, vs] } } : Shared).heap.IsSliceOf s4.heap.objs.size vl vu vs := Heap.IsSliceOf.new _ vl vu vs
    obtain ⟨lo, rfl, e1⟩ := IsPart.raw pl
    obtain ⟨hi, rfl, e2⟩ := IsPart.raw pu
    obtain ⟨st, rfl, e3⟩ := IsPart.raw ps
    obtain ⟨ob, g1, g2, g3⟩ := hsl
    have n1 : lo = none := by cases lo with | none => rfl | some _ => cases e1
    have n2 : hi = none := by cases hi with | none => rfl | some _ => cases e2
    obtain ⟨t3, rfl⟩ : ∃ t3, st = some (-1, t3) := by
      cases st with
      | none => cases e3
      | some p =>
        obtain ⟨c, t3⟩ := p
        have e4 : c = -1 := by simpa using e3
        exact ⟨t3, by rw [e4]⟩
    subst n1 n2
    refine PyProof.Rows.tail_any (ops := [.str z t, .ref s4.heap.objs.size]) (typeIs_str _ _ _) F.slot_str_getitem.lookup ?_ (by with_unfolding_all rfl)
    refine wpAny_getItem_str_slice (l := none) (u := none) (st := some (-1, t3)) ⟨ob, g1, g2, g3⟩ rfl ?_
    have hpick : (slicePicked z none none (some (-1, t3))).filterMap (z.cps[·]?) = z.cps.toList.reverse := by
      have e : slicePicked z none none (some (-1, t3)) = (List.range z.cps.size).map fun j => z.cps.size - 1 - j := PySem.W.krv_sliceRange z.cps.size
      rw [e, PySem.W.krv_range, List.filterMap_reverse, PySem.W.krv_all]
    unfold sliceMade
    rw [if_neg (by simp), hpick]
    have hl : (⟨z.cps.toList.reverse.toArray⟩ : Str).length ≤ sizeLine := by
      show z.cps.toList.reverse.toArray.size ≤ sizeLine
      rw [List.size_toArray, List.length_reverse, Array.length_toList]
      exact Nat.le_trans hz (by decide)
    exact ⟨hl, .str ⟨z.cps.toList.reverse.toArray⟩, H4, I5.tok _, ⟨_, rfl⟩, q _ (by simp)⟩
/-- a text twice -/
def rTwice : R2 := fun x y H Q => ∃ z : Str, x = .str z ∧ y = .int 2 ∧ z.length ≤ 100000 ∧ ∀ z2 : Str, z2.cps.toList = z.cps.toList ++ z.cps.toList → Q (.str z2) H
theorem op_twice : OpR X (binaryOp .Mult) rTwice := by
  intro pins s σ H x y v u Q I rx ry h
  obtain ⟨z, rfl, rfl, hz, q⟩ := h
  obtain ⟨t, rfl⟩ := rx
  obtain ⟨t2, rfl⟩ := ry
  have zl : z.length = z.cps.size := rfl
  refine PySem.P.mul_str (by decide) (fun _ _ => by omega) (fun _ _ => ?_) ?_
  · show decide (z.length * (2 : Int).toNat > sizeLine) = false
    have h2 : (2 : Int).toNat = 2 := rfl
    rw [h2, sizeLine_eq]
    exact decide_eq_false (by omega)
  · rw [if_neg (by decide)]
    by_cases h0 : ((2 : Int) == 1 || z.length == 0) = true
    · rw [if_pos h0]
      have e0 : z.cps.toList = [] := by
        have h1 : z.length = 0 := by simpa using h0
        exact List.eq_nil_of_length_eq_zero (by rw [Array.length_toList, ← zl, h1])
      exact ⟨.str z, H, I, ⟨_, rfl⟩, q z (by rw [e0]; rfl)⟩
    · rw [if_neg h0]
      have e : (List.replicate (2 : Int).toNat z.cps).foldl (· ++ ·) #[] = z.cps ++ z.cps := by
        show (#[] ++ z.cps) ++ z.cps = z.cps ++ z.cps
        rw [Array.empty_append]
      rw [e]
      have hl : (⟨z.cps ++ z.cps⟩ : Str).length ≤ sizeLine := by
        show (z.cps ++ z.cps).size ≤ sizeLine
        rw [Array.size_append, sizeLine_eq]
        omega
      exact ⟨hl, .str ⟨z.cps ++ z.cps⟩, H, I.tok _, ⟨_, rfl⟩, q _ (by simp)⟩
end
end SG

/-! remove of pairs of whole numbers; the set of a tuple of whole numbers. -/
namespace SG
open PySem PySem.Spec PyProof.Rows L2
section
variable {X : Cx}
def pairD (q : Int × Int) : PyData := .tuple [.int q.1, .int q.2]
theorem pairD_plain (q : Int × Int) : (pairD q).plain = true := by simp [pairD, PyData.plain, PyData.plainAll]
theorem pairsD_plain : ∀ qs : List (Int × Int), PyData.plainAll (qs.map pairD) = true
  | [] => by simp [PyData.plainAll]
  | q :: qs => by simp [PyData.plainAll, pairD_plain q, pairsD_plain qs]
theorem pairD_eqv (p q : Int × Int) : PyData.eqv (pairD p) (pairD q) = (p == q) := by
  obtain ⟨a, b⟩ := p
  obtain ⟨c, e⟩ := q
  have h : ((a, b) == (c, e)) = ((a == c) && (b == e)) := rfl
  rw [h]
  simp [pairD, PyData.eqv, PyData.eqvAll]
/-- the objects ys are the pairs qs -/
def Prs (K : PySem.W.Frag) (H : Hp) (ys : List V) (qs : List (Int × Int)) : Prop := Paired (fun (y : V) (q : Int × Int) => ∃ t, y = .ref t ∧ SqT K H t [.int q.1, .int q.2]) ys qs
theorem prs_dp {K : PySem.W.Frag} {H : Hp} : ∀ {ys : List V} {qs : List (Int × Int)}, Prs K H ys qs → DpAll K H ys (qs.map pairD)
  | _, _, .nil => .nil
  | _, _, .cons ⟨t, e, h⟩ r => by
    subst e
    exact .cons (.tup h (.cons (.int _) (.cons (.int _) .nil))) (prs_dp r)
theorem pairs_depth : ∀ qs : List (Int × Int), PyData.depthAll (qs.map pairD) ≤ 1
  | [] => by simp [PyData.depthAll]
  | q :: qs => by
    have := pairs_depth qs
    simp only [List.map_cons, PyData.depthAll, pairD, PyData.depth]
    omega
theorem place_of {qs : List (Int × Int)} {q : Int × Int} {j : Nat} (h : qs.findIdx? (· == q) = some j) : SeqAt.dataPlace (qs.map pairD) (pairD q) = some j := by
  unfold SeqAt.dataPlace
  rw [List.findIdx?_map]
  have e : ((fun y => PyData.eqv y (pairD q)) ∘ pairD) = fun p => p == q := funext fun p => pairD_eqv p q
  rw [e]
  exact h
def rRemP (K : PySem.W.Frag) : V → List V → Hp → VK → Prop := fun x xs H Q => ∃ (l t : Addr) (ys : List V) (qs : List (Int × Int)) (q : Int × Int) (j : Nat), x = .ref l ∧ xs = [.ref t] ∧ H l = some (.lst ys) ∧ Prs K H ys qs ∧ SqT K H t [.int q.1, .int q.2] ∧
  qs.findIdx? (· == q) = some j ∧ Q .non (upd H l (.lst (ys.eraseIdx j)))
theorem len_cut {α : Type} (xs : List α) (j : Nat) : (xs.eraseIdx j).length ≤ xs.length := List.length_eraseIdx_le ..
theorem mt_removeP (hu : X.A.units + 64 < cLine) : MtM X "list.remove" (rRemP X.K) := by
  intro pins s σ H x xs v us Q I rx rxs h
  obtain ⟨l, t, ys, qs, q, j, rfl, rfl, hH, hp, ht, hj, k⟩ := h
  cases rx
  obtain ⟨u, rfl, ru⟩ := rxs.one
  obtain rfl : u = Value.ref t := ru
  obtain ⟨z, its, n, r, hl, e⟩ := I.lstM hH
  obtain ⟨as, ra⟩ := Dp.readsAll I _ _ its (prs_dp hp) r
  obtain ⟨bs, rb⟩ := Dp.reads I (pairD q) (.ref t) (.ref t) (.tup ht (.cons (.int _) (.cons (.int _) .nil))) rfl
  have hd : (pairD q).depth = 1 := by simp [pairD, PyData.depth, PyData.depthAll]
  have hm := Nat.min_le_right (PyData.depthAll (qs.map pairD)) (pairD q).depth
  refine SeqAt.remove_list_data (vs := its.toArray) ⟨_, e, rfl, n, rfl⟩ (by simpa using ra) rb (pairsD_plain qs) (pairD_plain q) (by omega) (place_of hj) (by rw [List.size_toArray]; omega) ?_
  refine ⟨.non, _, I.lset (its' := its.eraseIdx j) (t' := s.toks) hH e ?_ (r.eraseIdx j) ?_, rfl, k⟩
  · show its.toArray.eraseIdxIfInBounds j = (its.eraseIdx j).toArray
    rw [List.eraseIdxIfInBounds_toArray]
  · exact Nat.le_trans (len_cut ys j) z
/-- the set of a tuple's whole numbers -/
def rSetOfI (K : PySem.W.Frag) (w : World) : List V → Hp → VK → Prop := fun vs H Q => ∃ (p : Addr) (ns : List Int), vs = [.ref p] ∧ SqT K H p (ns.map V.int) ∧ ns.length ≤ 1000 ∧ ∀ (a : Addr) (n : Nat), H a = none → n ≤ ns.length → Q (.ref a) (upd H a (SetO w a (fun j => decide (j ∈ ns)) n))
theorem cr_setOfI (hc : X.calm = true) : CallR X (.type "set") (rSetOfI X.K X.w) := by
  intro pins s σ H vs us Q I rv h
  obtain ⟨p, ns, rfl, hp, hl, k⟩ := h
  obtain ⟨u, rfl, ru⟩ := rv.one
  obtain rfl : u = Value.ref p := ru
  obtain ⟨its, r, pt, hz⟩ := I.tuple hp
  have hi : IntsAre its.toArray.toList ns := ints_of_vals r
  refine call_set_tupI ns (I.ok.hd hc) (show s.heap.IsTuple p its.toArray from pt) hi (by unfold scanBound; omega) fun h' tk c R1 hcn kp => ?_
  exact ⟨.ref _, _, I.laid (t' := tk) (o := SetO X.w s.heap.objs.size (fun j => decide (j ∈ ns)) c) kp (Nat.le_refl _) (setO_new R1), rfl, k _ c (I.hok.fresh (Nat.le_refl _)) hcn⟩
theorem k_setOfI {K : PySem.W.Frag} {w : World} (hc : X.calm = true) (e : X.K = K := by rfl) (ew : X.w = w := by rfl) : CallR X (.type "set") (rSetOfI K w) := e ▸ ew ▸ cr_setOfI hc
theorem k_removeP {K : PySem.W.Frag} (hu : X.A.units + 64 < cLine) (e : X.K = K := by rfl) : MtM X "list.remove" (rRemP K) := e ▸ mt_removeP hu
end
end SG

/-! The deck of G4, by the names of the later texts. -/
namespace SG
open PySem PySem.Spec PyProof.Rows L2
abbrev Dek (H : Hp) (d l : Addr) (c : Nat) : Prop := Deck H d l c
theorem Dek.mono {H : Hp} {d l : Addr} {c e : Nat} (D : Dek H d l c) (h : c ≤ e) : Dek H d l e := Deck.mono D h
theorem Dek.same {H H1 : Hp} {d l : Addr} {c : Nat} (D : Dek H d l c) (s : Same H H1) : Dek H1 d l c := Deck.same D s
theorem Dek.upd {H : Hp} {d l p : Addr} {c : Nat} {o : HO} (D : Dek H d l c) (hp : H p = none) : Dek (upd H p o) d l c := Deck.upd D hp
theorem Dek.ne {H : Hp} {d l p : Addr} {c : Nat} (D : Dek H d l c) (h : H p = none) : p ≠ d ∧ p ≠ l := Deck.ne D h
theorem Kept.tupG {K : PySem.W.Frag} {d l : Addr} {H H2 : Hp} {c : Nat} {a : Addr} {xs : List V} (k : Kept d l H H2) (D : Dek H d l c) (h : SqT K H a xs) : SqT K H2 a xs := k.tup D h
theorem Kept.lstG {K : PySem.W.Frag} {d l : Addr} {H H2 : Hp} {c : Nat} {a : Addr} {xs : List V} (k : Kept d l H H2) (D : Dek H d l c) (hl : a ≠ l) (h : SqL K H a xs) : SqL K H2 a xs := k.lst D hl h
/-- a list of values that are drawn, turn by turn -/
theorem lc_drawsG {d l D : Addr} {c n s : Nat} {te : TE} {σ : L2.St} {H1 : Hp} {Qd : Hp → Prop} {B : V → Prop} (D0 : Dek H1 d l c) (hD : H1 D = none) (hn : n ≤ 1000)
    (turn : ∀ (i : Nat) (H2 : Hp), i < n → Dek H2 d l (c + i) → Kept d l H1 H2 → ∀ R : VK, (∀ (x : V) (H3 : Hp), B x → Dek H3 d l (c + i + 1) → Kept d l H2 H3 → R x H3) → te ((wipe σ [s]).set s (some (.int (0 + i)))) H2 R)
    (done : ∀ (xs : List V) (H2 : Hp), xs.length = n → (∀ x ∈ xs, B x) → H2 D = some (.lst xs) → Dek H2 d l (c + n) → Kept d l H1 H2 → Qd H2) :
    ∃ W : Nat → Nat → Hp → Prop, (∃ m, W 0 m (upd H1 D (.lst []))) ∧ ∀ i m H, W i m H →
      ((Itr 0 n).stop i H ∧ Qd H) ∨ ((Itr 0 n).go i H ∧ ∃ Nx : Hp → Prop, (∀ H2, Nx H2 → ∃ m2, m2 < m ∧ W (i + 1) m2 H2) ∧ ∀ x H2, (Itr 0 n).yld i H x H2 → gName s x (wipe σ [s]) H2 fun σ2 H3 => wipe σ2 [s] = wipe σ [s] ∧ tYes σ2 H3 fun b H4 =>
        if b = true then te σ2 H4 fun y H5 => ∃ acc, H5 D = some (.lst acc) ∧ acc.length < sizeLine ∧ Nx (upd H5 D (.lst (acc ++ [y]))) else Nx H4) := by
  obtain ⟨nd, nl⟩ := D0.ne hD
  refine lc_range (fun i H2 => ∃ xs : List V, xs.length = i ∧ (∀ x ∈ xs, B x) ∧ H2 D = some (.lst xs) ∧ Dek H2 d l (c + i) ∧ Kept d l H1 H2) ?_ ?_ ?_
  · exact ⟨[], rfl, (fun _ h => absurd h List.not_mem_nil), upd_same, D0.upd hD, .of (same_new hD)⟩
  · rintro i H2 hi ⟨xs, hx, hB, hD2, D2, k2⟩
    refine ⟨wipe1 _ _ _, ?_⟩
    refine yesI ?_
    refine turn i H2 hi D2 k2 _ fun x H3 hb D3 k3 => ⟨xs, k3 _ _ hD2 nd nl, ?_, xs ++ [x], by simp [hx], fun y hy => ?_, upd_same, ?_, ?_⟩
    · rw [hx]
      exact small1000 (by omega)
    · rcases List.mem_append.mp hy with h | h
      · exact hB y h
      · rw [List.mem_singleton.mp h]; exact hb
    · obtain ⟨cs, m, k, h1, h2, h3⟩ := D3
      exact ⟨cs, m, k, by rw [upd_ne nd.symm]; exact h1, by rw [upd_ne nl.symm]; exact h2, h3⟩
    · intro b o e h1 h2
      rw [upd_ne (ne_of_none e hD)]
      exact k3 _ _ (k2 _ _ e h1 h2) h1 h2
  · rintro H2 ⟨xs, hx, hB, hD2, D2, k2⟩
    exact done xs H2 hx hB hD2 D2 k2

/-! ### comprehensions that make new objects alone -/
/-- all but lists stays -/
def Tups (H H' : Hp) : Prop := ∀ b o, H b = some o → (∀ zs, o ≠ .lst zs) → H' b = some o
theorem Tups.of {H H' : Hp} (s : Same H H') : Tups H H' := fun b o e _ => s b o e
theorem lc_same {J : It} {n : Nat} {G : Hp → Prop} {Y : Nat → Hp → V → Hp → Prop} (w : Walk J n G Y) {g : TG} {tt : TT} {te : TE} {vs : List Nat} {σ : L2.St} {H1 : Hp} {D : Addr} {Qd : Hp → Prop} (hn : n ≤ 1000) (hD : H1 D = none)
    (A : Nat → List V → Hp → Prop) (A0 : A 0 [] H1) (Am : ∀ i acc H H', Tups H H' → A i acc H → A i acc H') (hG : ∀ H, Same H1 H → G H)
    (turn : ∀ (i : Nat) (x : V) (acc : List V) (H2 H3 : Hp), i < n → Same H1 H2 → A i acc H2 → Y i H2 x H3 → ∀ (R : VK) (N : Hp → Prop), (∀ y H6, Same H2 H6 → A (i + 1) (acc ++ [y]) H6 → R y H6) → (∀ H6, Same H2 H6 → A (i + 1) acc H6 → N H6) →
      g x (wipe σ vs) H3 fun σ2 H4 => wipe σ2 vs = wipe σ vs ∧ tt σ2 H4 fun b H5 => if b = true then te σ2 H5 R else N H5)
    (done : ∀ (acc : List V) (H2 : Hp), Same H1 H2 → acc.length ≤ n → H2 D = some (.lst acc) → A n acc H2 → Qd H2) :
    ∃ W : Nat → Nat → Hp → Prop, (∃ m, W 0 m (upd H1 D (.lst []))) ∧ ∀ i m H, W i m H →
      (J.stop i H ∧ Qd H) ∨ (J.go i H ∧ ∃ Nx : Hp → Prop, (∀ H', Nx H' → ∃ m', m' < m ∧ W (i + 1) m' H') ∧ ∀ x H', J.yld i H x H' → g x (wipe σ vs) H' fun σ2 H2 => wipe σ2 vs = wipe σ vs ∧ tt σ2 H2 fun b H3 =>
        if b = true then te σ2 H3 fun y H4 => ∃ acc, H4 D = some (.lst acc) ∧ acc.length < sizeLine ∧ Nx (upd H4 D (.lst (acc ++ [y]))) else Nx H3) := by
  refine lc_it w (fun i H => Same H1 H ∧ ∃ acc, H D = some (.lst acc) ∧ acc.length ≤ i ∧ A i acc H) ⟨same_new hD, [], upd_same, Nat.le_refl _, Am _ _ _ _ (.of (same_new hD)) A0⟩ (fun i H _ q => hG H q.1) ?_ ?_
  · rintro i x H H' hi ⟨s, acc, hA, hl, a⟩ hy
    refine turn i x acc H H' hi s a hy _ _ (fun y H6 s6 a6 => ⟨acc, s6 _ _ hA, small1000 (by omega), same_upd_of (s.trans s6) hD, acc ++ [y], upd_same, by rw [List.length_append]; simpa using hl, Am _ _ _ _ ?_ a6⟩) fun H6 s6 a6 => ⟨s.trans s6, acc, s6 _ _ hA, by omega, a6⟩
    intro b o e nl
    have hb : b ≠ D := fun z => nl acc (Option.some.inj (e.symm.trans (by rw [z]; exact s6 _ _ hA)))
    rw [upd_ne hb]
    exact e
  · rintro H ⟨s, acc, hA, hl, a⟩
    exact done acc H s hl hA a
end SG

namespace SG
open PySem PySem.Spec PyProof.Rows L2 TL
abbrev qLam (q : Str) : Str := q ++ ".<locals>." ++ "<lambda>"
/-- the tables of the defs that make lambdas -/
abbrev tabs (Po Pm Pb : Addr) : List (Addr × Str) := [(Po, qLam "open_round"), (Pm, qLam "mean"), (Pb, qLam "mean_by")]
section
variable {P : Program} {w : World} {K : PySem.W.Frag} {mg : Str → Option Value} {base : Heap}
def spOnward (K : PySem.W.Frag) : Sp := fun vs H Q _ => ∃ (a : Addr) (S : Int) (r : List Int), vs = [.ref a, .int S] ∧ 0 < S ∧ SqL K H a (r.map V.int) ∧ r.length ≤ 400 ∧ ∀ (p : Addr) (H2 : Hp), Same H H2 → H2 p = some (.lst ((dbl S r).map V.int)) → Q (.ref p) H2
theorem ok_onward {f : Addr} {fd : FuncData} (F : Fun K "onward_rests" "onward_rests" s_onward_rests f fd) (T : Txt mg) : GFn P w K mg base CX0 1 f fd ["rests", "total"] (spOnward K) := by
  refine gfun_ok F sc_onward_rests (fun vs H Q E h => ?_) (fun cdv A outer s H vs Q E hgu hr h => ?_)
  · obtain ⟨a, S, r, rfl, _⟩ := h
    rfl
  · obtain ⟨a, S, r, rfl, hS, ha, hl, q⟩ := h
    have nd := sc_onward_rests.nd
    refine ⟨_, (pss_one (ps_ret (pe_lc (own := [("rest", 2)]) rfl nd (pi_list (pv 0)) (blkOk_by (N := N_onward_rests) (sc := defScope s_onward_rests) (by decide +kernel)) (fun _ _ _ _ _ => (pg_name (i := 2) nd rfl (Or.inl rfl))) (fun _ _ _ _ _ => pts_nil) (fun _ _ _ _ _ => (pe_op op_mod (pe_op op_mul pe_int (pv 2)) (pv 1)))))), ?_⟩
    refine ⟨_, rfl, a, rfl, ⟨_, ha⟩, fun D nD => ?_⟩
    refine lc_same (walk_list (K := K) (a := a) (xs := r.map V.int)) (by rw [List.length_map]; omega) nD (fun i acc _ => acc = (dbl S (r.take i)).map V.int) rfl (fun _ _ _ _ _ h => h) (fun H5 s5 => s5.seq ha) ?_ ?_
    · rintro i x acc H5 H6 hi s5 rfl ⟨rfl, hx⟩ R N hR hN
      obtain ⟨z, hz, rfl⟩ : ∃ z, r[i]? = some z ∧ x = V.int z := by
        rw [List.getElem?_map] at hx
        obtain ⟨z, hz, e⟩ := Option.map_eq_some_iff.mp hx
        exact ⟨z, hz, e.symm⟩
      refine ⟨wipe1 _ _ _, yesI ?_⟩
      refine ⟨_, rfl, _, _, rfl, rfl, .inl ⟨by decide, by decide⟩, _, rfl, _, _, rfl, rfl, hS, hR _ _ (Same.refl _) ?_⟩
      rw [List.take_succ, hz]
      simp [dbl]
    · rintro acc H5 s5 hl2 hD rfl
      refine q D H5 s5 ?_
      rw [hD, List.length_map, List.take_length]
def spMean (K : PySem.W.Frag) (TT : List (Addr × Str)) : Sp := fun vs H Q _ => ∃ m : Nat, vs = [.int m] ∧ 1 ≤ m ∧ m ≤ 400 ∧ LamX.Tabs TT H ∧
  ∀ (p : Addr) (i n : Nat) (H2 : Hp), IsRound (pow2 m) i n → LamX.ExtN H H2 → LamX.Tabs TT H2 → SqT K H2 p (meanV (pow2 m) i n) → Q (.ref p) H2
theorem ok_mean {TT : List (Addr × Str)} {f f1 f2 f3 f4 c Pm : Addr} {fd fd1 fd2 fd3 fd4 : FuncData} (F : Fun K "mean" "mean" s_mean f fd) (hc : fd.code = .ref c) (TB : LamX.TabB base mg c Pm) (hT : (Pm, qLam "mean") ∈ TT) (hT1 : ∀ p ∈ TT, p.1 = Pm → p.2 = qLam "mean")
    (F_round_from : Fun K "round_from" "round_from" s_round_from f1 fd1) (m_round_from : mg "round_from" = some (.ref f1)) (b_round_from : Binds K fd1 ["start", "move_on"] [])
    (F_summed_by_halves : Fun K "summed_by_halves" "summed_by_halves" s_summed_by_halves f2 fd2) (m_summed_by_halves : mg "summed_by_halves" = some (.ref f2)) (b_summed_by_halves : Binds K fd2 ["opens", "first"] [])
    (F_fraction : Fun K "fraction" "fraction" s_fraction f3 fd3) (m_fraction : mg "fraction" = some (.ref f3)) (b_fraction : Binds K fd3 ["top", "bottom"] [])
    (F_weighed : Fun K "weighed" "weighed" s_weighed f4 fd4) (m_weighed : mg "weighed" = some (.ref f4)) (b_weighed : Binds K fd4 ["opens"] []) (T : Txt mg) : GFn P w K mg base CX0 4 f fd ["many"] (spMean K TT) := by
  have H_round_from : HFn P w K mg base 1 f1 (spRI K) := ok_roundI F_round_from b_round_from T 1
  have G_summed_by_halves : GFn P w K mg base CX0 2 f2 fd2 ["opens", "first"] (spHalves K) := ok_halves F_summed_by_halves F_fraction m_fraction b_fraction F_weighed m_weighed b_weighed T
  refine gfun_okC F hc sc_mean (fun vs H Q E h => ?_) (fun A outer s H vs Q E hgu hr h => ?_)
  · obtain ⟨m, rfl, _⟩ := h
    rfl
  · obtain ⟨m, rfl, m1, m2, tT, q⟩ := h
    have nd := sc_mean.nd
    refine ⟨_, (pss_cons (ps_asg (pe_lamF2 (T := TT) ["places", "many"] ["many"] "places" [0] H_round_from hgu (hr.mono (by decide)) (by rfl) m_round_from F_round_from.kp (pe_op op_mod pe_int (pv 0)) TB rfl hT hT1 rfl (NdefX.nscope_by (by decide +kernel)) (kind_by (sc := defScope s_mean) rfl (by decide +kernel)) (by decide +kernel) rfl (fun _ _ _ _ _ _ => rfl) (fun B outer st HZ f2 c2 hgu hr => (pe_op op_mod (pe_op op_mul pe_int (pv 0)) (pv 1)))) (k_tg (K := K) (n := 2) rfl (pgs_cons (pg_name (i := 1) nd rfl (Or.inl rfl)) (pgs_cons (pg_name (i := 2) nd rfl (Or.inl rfl)) pgs_nil))))
      (pss_one (ps_ret (pe_g G_summed_by_halves hgu (hr.mono (by decide)) (by rfl) m_summed_by_halves F_summed_by_halves.kp b_summed_by_halves .nil pass0 (pa_cons (pv 2) (pa_cons (pv 1) pa_nil)))))), ?_⟩
    have m0 : (0 : Int) < m := by omega
    refine ⟨_, rfl, _, _, rfl, rfl, m0, tT, fun H2 ext t2 => ?_⟩
    refine ⟨pow2 m, m, rfl, by omega, fun n h => ?_, fun k HZ R sZ hR => ?_, fun p l i n H3 hrd s3 hp hl => ?_⟩
    · refine few_terms (g := fun k => (pow2 m k).toNat) (fun a b e => ?_) (fun a => ?_) h
      · have x := (pow2_in m0 a).1
        have y := (pow2_in m0 b).1
        have e : (pow2 m a).toNat = (pow2 m b).toNat := e
        omega
      · have x := (pow2_in m0 a).1
        have y : pow2 m a < m := Int.emod_lt_of_pos _ m0
        show (pow2 m a).toNat < m
        omega
    · have z := hR HZ (Same.refl _)
      rw [pow2_succ] at z
      exact ⟨_, rfl, _, _, rfl, rfl, .inl ⟨by decide, by decide⟩, _, rfl, _, _, rfl, rfl, m0, z⟩
    · refine ⟨p, _, rfl, hp, rfl, _, _, rfl, _, _, rfl, rfl, ?_⟩
      have nm : n ≤ m := few_terms (o := pow2 m) (g := fun k => (pow2 m k).toNat) (fun a b e => by
        have x := (pow2_in m0 a).1
        have y := (pow2_in m0 b).1
        have e : (pow2 m a).toNat = (pow2 m b).toNat := e
        omega) (fun a => by
        have x := (pow2_in m0 a).1
        have y : pow2 m a < m := Int.emod_lt_of_pos _ m0
        show (pow2 m a).toNat < m
        omega) hrd.2.2
      refine ⟨_, rfl, _, rfl, l, pow2 m, i, n, rfl, SqL.of hl, hrd.1, by omega, fun k => ?_, fun p2 H4 s4 h4 => ?_⟩
      · have z := pow2_in m0 k
        omega
      · have s34 := s3.trans s4
        exact q p2 i n H4 hrd (ext.trans (.of s34)) (t2.ext s34) h4
def spRound (K : PySem.W.Frag) (TT : List (Addr × Str)) : Sp := fun vs H Q _ => ∃ m : Nat, vs = [.int m] ∧ 1 ≤ m ∧ m ≤ 400 ∧ LamX.Tabs TT H ∧
  ∀ (p : Addr) (i n : Nat) (H2 : Hp), IsRound (pow2 m) i n → LamX.ExtN H H2 → LamX.Tabs TT H2 → SqT K H2 p [.int i, .int ((n : Int) - i)] → Q (.ref p) H2
theorem ok_openRound {TT : List (Addr × Str)} {f f1 c Po : Addr} {fd fd1 : FuncData} (F : Fun K "open_round" "open_round" s_open_round f fd) (hc : fd.code = .ref c) (TB : LamX.TabB base mg c Po) (hT : (Po, qLam "open_round") ∈ TT) (hT1 : ∀ p ∈ TT, p.1 = Po → p.2 = qLam "open_round")
    (F_round_from : Fun K "round_from" "round_from" s_round_from f1 fd1) (m_round_from : mg "round_from" = some (.ref f1)) (b_round_from : Binds K fd1 ["start", "move_on"] []) (T : Txt mg) : GFn P w K mg base CX0 4 f fd ["many"] (spRound K TT) := by
  have H_round_from : HFn P w K mg base 1 f1 (spRI K) := ok_roundI F_round_from b_round_from T 1
  refine gfun_okC F hc sc_open_round (fun vs H Q E h => ?_) (fun A outer s H vs Q E hgu hr h => ?_)
  · obtain ⟨m, rfl, _⟩ := h
    rfl
  · obtain ⟨m, rfl, m1, m2, tT, q⟩ := h
    have nd := sc_open_round.nd
    refine ⟨_, (pss_cons (ps_asg (pe_lamF2 (T := TT) ["places", "many"] ["many"] "places" [0] H_round_from hgu (hr.mono (by decide)) (by rfl) m_round_from F_round_from.kp (pe_op op_mod pe_int (pv 0)) TB rfl hT hT1 rfl (NdefX.nscope_by (by decide +kernel)) (kind_by (sc := defScope s_open_round) rfl (by decide +kernel)) (by decide +kernel) rfl (fun _ _ _ _ _ _ => rfl) (fun B outer st HZ f2 c2 hgu hr => (pe_op op_mod (pe_op op_mul pe_int (pv 0)) (pv 1)))) (k_tg (K := K) (n := 2) rfl (pgs_cons (pg_name (i := 1) nd rfl (Or.inl rfl)) (pgs_cons (pg_name (i := 2) nd rfl (Or.inl rfl)) pgs_nil))))
      (pss_one (ps_ret (pe_tup (pa_cons (pv 1) (pa_cons (pe_op op_sub (pe_callB (k_len (K := K)) (by rfl) T.len (by decide +kernel) (pa_cons (pv 2) pa_nil)) (pv 1)) pa_nil)))))), ?_⟩
    have m0 : (0 : Int) < m := by omega
    have few : ∀ n, (∀ a b, a < b → b < n → pow2 m a ≠ pow2 m b) → n ≤ m := fun n h => by
      refine few_terms (o := pow2 m) (g := fun k => (pow2 m k).toNat) (fun a b e => ?_) (fun a => ?_) h
      · have x := (pow2_in m0 a).1
        have y := (pow2_in m0 b).1
        have e : (pow2 m a).toNat = (pow2 m b).toNat := e
        omega
      · have x := (pow2_in m0 a).1
        have y : pow2 m a < m := Int.emod_lt_of_pos _ m0
        show (pow2 m a).toNat < m
        omega
    refine ⟨_, rfl, _, _, rfl, rfl, m0, tT, fun H2 ext t2 => ?_⟩
    refine ⟨pow2 m, m, rfl, by omega, few, fun k HZ R sZ hR => ?_, fun p l i n H3 hrd s3 hp hl => ?_⟩
    · have z := hR HZ (Same.refl _)
      rw [pow2_succ] at z
      exact ⟨_, rfl, _, _, rfl, rfl, .inl ⟨by decide, by decide⟩, _, rfl, _, _, rfl, rfl, m0, z⟩
    · refine ⟨p, _, rfl, hp, rfl, _, _, rfl, _, _, rfl, rfl, ?_⟩
      refine ⟨_, rfl, _, rfl, l, _, rfl, .inl (SqL.of hl), ?_⟩
      have el : (((opensTo (pow2 m) n).map V.int).length : Int) = n := by simp [opensTo]
      rw [el]
      refine ⟨_, rfl, _, _, rfl, rfl, by show 2 ≤ sizeLine; decide, fun z nz => ?_⟩
      have s4 : Same H3 (upd H3 z (.tup [.int i, .int ((n : Int) - i)])) := same_new nz
      have s34 := s3.trans s4
      exact q z i n _ hrd (ext.trans (.of s34)) (t2.ext s34) (.inl (.inl upd_same))
end
end SG

/-! sum of a tuple of whole numbers, index in one. -/
namespace SG
open PySem PySem.Spec PyProof.Rows L2
theorem sum_raw_tup {prog : Program} {w : World} {A : Around} {E : Value → Shared → Prop} {s : Shared} {l : Addr} {its : List Value} {ns : List Int} {Q : Value → Shared → Prop} (hh : A.handled = none) (hl : s.heap.IsTuple l its.toArray) (hi : IntsAre its ns)
    (h : ∀ (h' : Heap) (tk : Nat) (t' : Tok), (∀ b o, s.heap.get? b = some o → h'.get? b = some o) → Q (.int ns.sum t') { s with heap := h', toks := tk }) :
    wpAny (model prog w) A (call (.builtin "sum") [.ref l]) Q E s := by
  obtain ⟨xs, e⟩ := hi.allInts.items
  have hn : PySem.numsOf (PySem.intItems xs).toList = ns := by
    rw [← e]
    exact hi.numsOf
  rw [e] at hl
  refine PySem.call_sum_walkG (PySem.wpAny_pyIter_tuple hl ?_)
  have lt : l < s.heap.objs.size := by
    obtain ⟨o, ho, _⟩ := hl
    exact Heap.lt_size ho
  have kp : ∀ (b : Addr) (o : Obj), s.heap.get? b = some o → (s.heap.push { cls := .type "tuple_iterator", data := .fields #[.ref l, .int 0 0] }).get? b = some o := fun b o e => Heap.get?_push_of_some _ e
  refine ⟨s.heap.objs.size, [s.heap.objs.size, l], [s.heap.objs.size], (PySem.intItems xs).size, _, _, PySem.numAt xs, rfl, PySem.Walks.tuple (show A.in1.handled = none from hh) s.heap.objs.size l (Nat.ne_of_lt lt) (PySem.intItems xs), ?_, ?_, fun i v hv => PySem.intItems_at hv, fun h' tk t' hk => ?_⟩
  · refine ⟨⟨{ cls := .type "tuple_iterator", data := .fields #[.ref l, .int 0 0] }, by heap_get, rfl, rfl⟩, ?_⟩
    obtain ⟨o, ho, hr⟩ := hl
    exact ⟨o, kp _ _ ho, hr⟩
  · intro b hb
    rw [Heap.size_push]
    rcases List.mem_cons.mp hb with rfl | hb
    · exact Nat.lt_succ_self _
    · rw [List.mem_singleton.mp hb]
      exact Nat.lt_succ_of_lt lt
  · have z := h h' tk t' fun b o e => hk b o (fun m => by rw [List.mem_singleton.mp m] at e; exact absurd (Heap.lt_size e) (Nat.lt_irrefl _)) (kp b o e)
    have es : preSum (PySem.numAt xs) (PySem.intItems xs).size = ns.sum := by
      rw [PySem.preSum_eq, ← hn, PySem.nums_intItems, List.take_of_length_le]
      simp [PySem.intItems]
    rw [es]
    exact z
def rSumT (K : PySem.W.Frag) : List V → Hp → VK → Prop := fun vs H Q => ∃ (a : Addr) (ns : List Int), vs = [V.ref a] ∧ SqT K H a (ns.map V.int) ∧ Q (.int ns.sum) H
section
variable {X : Cx} {K : PySem.W.Frag}
theorem k_sumT (hc : X.calm = true) (e : X.K = K := by rfl) : CallR X (.builtin "sum") (rSumT K) := by
  subst e
  intro pins s σ H vs us Q I rv h
  obtain ⟨a, ns, rfl, ha, q⟩ := h
  obtain ⟨u, rfl, ru⟩ := rv.one
  obtain rfl : u = Value.ref a := ru
  obtain ⟨its, r, pt, hz⟩ := I.tuple ha
  exact sum_raw_tup (I.ok.hd hc) (show s.heap.IsTuple a its.toArray from pt) r.ints fun h' tk t' hk => ⟨.int ns.sum, H, I.kept hk, ⟨t', rfl⟩, q⟩
def rIndexT (K : PySem.W.Frag) : V → List V → Hp → VK → Prop := fun x xs H Q => ∃ (p : Addr) (ys : List Int) (z : Int) (j : Nat), x = .ref p ∧ xs = [.int z] ∧ SqT K H p (ys.map V.int) ∧ ys[j]? = some z ∧ (∀ m, m < j → ys[m]? ≠ some z) ∧ Q (.int (j : Nat)) H
theorem flat_intsT : ∀ ys : List Int, (ys.map V.int).all flatV = true := fun ys => by
  rw [List.all_map, List.all_eq_true]
  exact fun _ _ => rfl
theorem k_indexT (e : X.K = K := by rfl) : MtR X "tuple.index" (rIndexT K) := by
  subst e
  intro pins s σ H x xs v us Q I rx rs h
  obtain ⟨p, ys, z, j, rfl, rfl, hq, hy, hno, q⟩ := h
  obtain rfl : v = Value.ref p := rx
  obtain ⟨u, rfl, ru⟩ := rs.one
  obtain ⟨t, rfl⟩ : ∃ t, u = Value.int z t := ru
  obtain ⟨its, r, ⟨o, ho, hcl, n, hd⟩, hz⟩ := I.tuple hq
  obtain ⟨cls, dd, dt, sl⟩ := o
  subst hcl
  subst hd
  have hl : its.toArray.size = ys.length := by
    rw [List.size_toArray, ← r.length, List.length_map]
  have hj : j < its.toArray.size := by
    rw [hl]
    exact (List.getElem?_eq_some_iff.mp hy).1
  have at2 : ∀ m (hm : m < its.toArray.size), ∃ y t', ys[m]? = some y ∧ its.toArray[m] = Value.int y t' := by
    intro m hm
    have hm2 : m < ys.length := by omega
    obtain ⟨w, hw, t', hw2⟩ := r.get (i := m) (x := V.int ys[m]) (by simp [hm2])
    refine ⟨ys[m], t', List.getElem?_eq_getElem hm2, ?_⟩
    have e := (List.getElem?_eq_some_iff.mp hw).2
    have e2 := e.trans hw2
    simpa using e2
  refine PySem.call_meets PySem.F.slot_tuple_index ⟨_, ho, rfl⟩ PySem.F.entry_tuple_index (PySem.F.args_tuple_index_2 (Value.ref p) (Value.int z t)) (TI.tuple_indexAt p its.toArray n dd sl (Value.int z t) (eqU (V.int z)) j hj ?_ fun m hm hmj => ?_) ⟨ho, fun w hw => mem_eqAt (x := V.int z) ⟨t, rfl⟩ rfl r (flat_intsT ys) w (by simpa using hw), .int (j : Nat), H, I.tok (s.toks + 1), ⟨s.toks, rfl⟩, q⟩
  · obtain ⟨y, t', h1, h2⟩ := at2 j hj
    rw [h2]
    rw [hy] at h1
    cases h1
    show eqV (V.int z) (V.int z) = true
    simp [eqV]
  · obtain ⟨y, t', h1, h2⟩ := at2 m hm
    rw [h2]
    show eqV (V.int y) (V.int z) = false
    have ne : y ≠ z := fun e => hno m hmj (e ▸ h1)
    simp [eqV, ne]
/-- a tuple of the heap's own, with no dict -/
def FT (H : Hp) (p : Addr) (xs : List V) : Prop := ∃ o : Obj, o.dict = none ∧ H p = some (.frz o (.tup xs))
theorem FT.seq {K : PySem.W.Frag} {H : Hp} {p : Addr} {xs : List V} (h : FT H p xs) : SqT K H p xs := by
  obtain ⟨o, _, h⟩ := h
  exact .inl (.inr ⟨o, h⟩)
theorem FT.same {H H2 : Hp} {p : Addr} {xs : List V} (s : Same H H2) (h : FT H p xs) : FT H2 p xs := by
  obtain ⟨o, h1, h⟩ := h
  exact ⟨o, h1, s _ _ h⟩
theorem FT.at_ {X : Cx} {pins : List (Addr × Obj)} {σ : L2.St} {H : Hp} {s : Shared} {p : Addr} {xs : List V} (I : Inv X pins σ H s) (h : FT H p xs) : ∃ ob : Obj, s.heap.get? p = some ob ∧ ob.dict = none := by
  obtain ⟨o, h1, h⟩ := h
  obtain ⟨e, _⟩ := I.hok p _ h
  exact ⟨o, e, h1⟩
def newT (us : List Value) : Obj := { cls := .type "tuple", data := .seq us.toArray }
theorem laidF {X : Cx} {pins : List (Addr × Obj)} {σ : L2.St} {H : Hp} {s : Shared} {h' : Heap} {xs : List V} {us : List Value} {tk : Nat} (I : Inv X pins σ H s) (kp : ∀ b o, s.heap.get? b = some o → h'.get? b = some o) (r : Vals xs us) (hz : xs.length ≤ sizeLine) :
    Inv X pins σ (upd H h'.objs.size (.frz (newT us) (.tup xs))) { s with heap := h'.push (newT us), toks := tk } := by
  have I1 : Inv X pins σ H { s with heap := h' } := I.kept kp
  have I2 := I1.laid (h' := h'.push (newT us)) (a := h'.objs.size) (o := .frz (newT us) (.tup xs)) (t' := tk) (fun b o e => Heap.get?_push_of_some _ e) (Nat.le_refl _) ⟨Heap.get?_push_size h' rfl, hz, us, r, newT us, Heap.get?_push_size h' rfl, rfl, 0, rfl⟩
  exact I2
def rTupOfF (K : PySem.W.Frag) : List V → Hp → VK → Prop := fun xs H Q => ∃ p ys, xs = [.ref p] ∧ SqL K H p ys ∧ ∀ (z : Addr) (H3 : Hp), Same H H3 → FT H3 z ys → Q (.ref z) H3
theorem k_tupOfF (e : X.K = K := by rfl) : CallR X (.type "tuple") (rTupOfF K) := by
  subst e
  intro pins s σ H vs us Q I rv h
  obtain ⟨p, ys, rfl, hp, q⟩ := h
  obtain ⟨u, rfl, ru⟩ := rv.one
  obtain rfl : u = Value.ref p := ru
  obtain ⟨its, r, pl, hz⟩ := I.list hp
  refine PySem.call_tuple_list pl.isList (fun h' kp => ?_) (by rw [List.size_toArray, ← r.length]; exact hz)
  have J := laidF (tk := s.toks) I kp r hz
  have nf : H h'.objs.size = none := (I.kept kp : Inv X pins σ H { s with heap := h' }).hok.fresh (Nat.le_refl _)
  exact ⟨.ref h'.objs.size, _, J, rfl, q _ _ (same_new nf) ⟨newT its, rfl, upd_same⟩⟩
def tTupF (t : TA) : TE := fun σ H Q => t σ H fun xs H1 => xs.length ≤ sizeLine ∧ ∀ (z : Addr) (H3 : Hp), Same H1 H3 → FT H3 z xs → Q (.ref z) H3
theorem pe_tupF {es : List Expr} {t : TA} {pos : Pos} {k : Nat} (h : PA X es t) : PE X (.Tuple es k pos) (tTupF t) := by
  refine ⟨fun pins s σ H Q I hq => PySem.wpAny_Tuple_spliced (thn (h.run pos pins s σ H _ I hq) fun us s1 hh => ?_)⟩
  obtain ⟨xs, H1, I1, r, z, q⟩ := hh
  refine ⟨by rw [← r.length]; exact z, ?_⟩
  have J := laidF (tk := s1.toks) I1 (fun _ _ e => e) r z
  exact ⟨.ref s1.heap.objs.size, _, J, rfl, q _ _ (same_new (I1.hok.fresh (Nat.le_refl _))) ⟨newT us, rfl, upd_same⟩⟩
def rCatF : R2 := fun x y H Q => ∃ a b xs ys, x = .ref a ∧ y = .ref b ∧ FT H a xs ∧ FT H b ys ∧ xs.length + ys.length ≤ sizeLine ∧ ∀ (z : Addr) (H3 : Hp), Same H H3 → FT H3 z (xs ++ ys) → Q (.ref z) H3
theorem op_catF : OpR X (binaryOp .Add) rCatF := by
  intro pins s σ H x y v u Q I rx ry h
  obtain ⟨a, b, xs, ys, rfl, rfl, ha, hb, hz, q⟩ := h
  obtain rfl : v = Value.ref a := rx
  obtain rfl : u = Value.ref b := ry
  obtain ⟨its, r1, p1, z1⟩ := I.tuple (ha.seq (K := X.K))
  obtain ⟨its2, r2, p2, z2⟩ := I.tuple (hb.seq (K := X.K))
  have lz1 := r1.length
  have lz2 := r2.length
  by_cases hx : xs = []
  · subst hx
    have e0 : its = [] := List.eq_nil_of_length_eq_zero (by rw [← lz1]; rfl)
    subst e0
    exact cat_tup0 p1 p2 ⟨.ref b, H, I, rfl, q b H (Same.refl H) hb⟩
  · have n0 : its ≠ [] := fun e => hx (List.eq_nil_of_length_eq_zero (by rw [lz1, e]; rfl))
    refine HT.cat_tup p1 p2 n0 (fun e => ?_) (fun e => ?_) ?_
    · have ey : ys = [] := List.eq_nil_of_length_eq_zero (by rw [lz2, e]; rfl)
      subst ey
      exact ⟨.ref a, H, I, rfl, q a H (Same.refl H) (by rw [List.append_nil]; exact ha)⟩
    · have J := laidF (tk := s.toks) (us := its ++ its2) (xs := xs ++ ys) I (fun _ _ e => e) (r1.append r2) (by rw [List.length_append]; exact hz)
      exact ⟨.ref s.heap.objs.size, _, J, rfl, q _ _ (same_new (I.hok.fresh (Nat.le_refl _))) ⟨newT (its ++ its2), rfl, upd_same⟩⟩
    · omega
def tBMT (K : PySem.W.Frag) (r : V → List V → Hp → VK → Prop) (to : TE) (t : TA) : TE := fun σ H Q => to σ H fun x H1 => (∃ (p : Addr) (ys : List V), x = .ref p ∧ FT H1 p ys) ∧ t σ H1 fun xs H2 => r x xs H2 Q
/-- a method of a tuple -/
theorem k_bmT {id : String} {name : Str} {apos cpos : Pos} {o e : Expr} {es : List Expr} {to : TE} {t : TA} {r : V → List V → Hp → VK → Prop} (pa : PlainAttrs "tuple") (slot : Slot "tuple" name id) (hty : typeOf (.builtin id) = pure (.type "method_descriptor")) (hm : MtR X id r) (ho : PE X o to) (ha : PA X (e :: es) t)
    (hbase : attributeBase o name X.env (eval o X.env) = eval o X.env := by rfl)
    (hfew : ((backTo cpos (starEach (e :: es) X.env)).all (fun x => !x.1) && (backToKw cpos (keywordEach [] X.env)).all (fun x => x.1.isSome)
      && decide ((e :: es).length + ([] : List Keyword).length + (if ([] : List Keyword).isEmpty then 0 else 1) < 30)) = true := by rfl)
    (hline : (apos.endLine == cpos.line) = true := by rfl) (hs : starEach (e :: es) X.env = (false, eval e X.env) :: starEach es X.env := by rfl) (hplain : (backTo cpos (starEach es X.env)).any (·.1) = false := by rfl) (eK : X.K = K := by rfl) :
    PE X (.Call (.Attribute o name apos) (e :: es) [] cpos) (tBMT K r to t) := by
  subst eK
  refine ⟨fun pins s σ H Q I h => wpAny_Call_method_late hbase hfew hline rfl (thn (ho.run pins s σ H _ I h) fun v s1 hh => ?_)⟩
  obtain ⟨x, H1, I1, r1, ⟨p, ys, rfl, hp⟩, q1⟩ := hh
  obtain rfl : v = Value.ref p := r1
  obtain ⟨its, r0, pt, hz⟩ := I1.tuple (hp.seq (K := X.K))
  have hA := ha.run cpos pins s1 σ H1 (fun xs H2 => r (V.ref p) xs H2 Q) I1 q1
  refine ⟨"tuple", id, pa, slot, hty, ?_, ?_, ?_⟩
  · obtain ⟨ob, e, hc, _⟩ := pt
    exact ⟨ob, e, hc⟩
  · rintro a ⟨⟩
    exact hp.at_ I1
  · rw [hs] at hA ⊢
    refine PySem.Calls.callWith_builtin (by show (false || (backTo cpos (starEach es X.env)).any fun x => x.1) = false; rw [hplain]; rfl) (PySem.Calls.evalArgs_plain (thn hA fun us s2 hh => ?_))
    obtain ⟨vs, H2, I2, r2, q2⟩ := hh
    exact hm pins s2 σ H2 (.ref p) vs (.ref p) us Q I2 rfl r2 q2
end
end SG

namespace SG
open PySem PySem.Spec PyProof.Rows L2 TL
section
variable {P : Program} {w : World} {K : PySem.W.Frag} {mg : Str → Option Value} {base : Heap}
def spOnwardT (K : PySem.W.Frag) : Sp := fun vs H Q _ => ∃ (a : Addr) (S : Int) (r : List Int), vs = [.ref a, .int S] ∧ 0 < S ∧ SqT K H a (r.map V.int) ∧ r.length ≤ 400 ∧ ∀ (p : Addr) (H2 : Hp), Same H H2 → H2 p = some (.lst ((dbl S r).map V.int)) → Q (.ref p) H2
theorem ok_onwardT {f : Addr} {fd : FuncData} (F : Fun K "onward_rests" "onward_rests" s_onward_rests f fd) (T : Txt mg) : GFn P w K mg base CX0 1 f fd ["rests", "total"] (spOnwardT K) := by
  refine gfun_ok F sc_onward_rests (fun vs H Q E h => ?_) (fun cdv A outer s H vs Q E hgu hr h => ?_)
  · obtain ⟨a, S, r, rfl, _⟩ := h
    rfl
  · obtain ⟨a, S, r, rfl, hS, ha, hl, q⟩ := h
    have nd := sc_onward_rests.nd
    refine ⟨_, (pss_one (ps_ret (pe_lc (own := [("rest", 2)]) rfl nd (pi_tup (pv 0)) (blkOk_by (N := N_onward_rests) (sc := defScope s_onward_rests) (by decide +kernel)) (fun _ _ _ _ _ => (pg_name (i := 2) nd rfl (Or.inl rfl))) (fun _ _ _ _ _ => pts_nil) (fun _ _ _ _ _ => (pe_op op_mod (pe_op op_mul pe_int (pv 2)) (pv 1)))))), ?_⟩
    refine ⟨_, rfl, a, rfl, ⟨_, ha⟩, fun D nD => ?_⟩
    refine lc_same (walk_tup (K := K) (a := a) (xs := r.map V.int)) (by rw [List.length_map]; omega) nD (fun i acc _ => acc = (dbl S (r.take i)).map V.int) rfl (fun _ _ _ _ _ h => h) (fun H5 s5 => sameT s5 ha) ?_ ?_
    · rintro i x acc H5 H6 hi s5 rfl ⟨rfl, hx⟩ R N hR hN
      obtain ⟨z, hz, rfl⟩ : ∃ z, r[i]? = some z ∧ x = V.int z := by
        rw [List.getElem?_map] at hx
        obtain ⟨z, hz, e⟩ := Option.map_eq_some_iff.mp hx
        exact ⟨z, hz, e.symm⟩
      refine ⟨wipe1 _ _ _, yesI ?_⟩
      refine ⟨_, rfl, _, _, rfl, rfl, .inl ⟨by decide, by decide⟩, _, rfl, _, _, rfl, rfl, hS, hR _ _ (Same.refl _) ?_⟩
      rw [List.take_succ, hz]
      simp [dbl]
    · rintro acc H5 s5 hl2 hD rfl
      refine q D H5 s5 ?_
      rw [hD, List.length_map, List.take_length]
theorem tups_len {H : Hp} : ∀ {bs : List Addr} {xss : List (List Int)}, TupsAt H bs xss → bs.length = xss.length
  | _, _, .nil => rfl
  | _, _, .cons _ r => congrArg (· + 1) (tups_len r)
theorem tups_get {H : Hp} : ∀ {bs : List Addr} {xss : List (List Int)} {i : Nat} {b : Addr}, TupsAt H bs xss → bs[i]? = some b → ∃ xs, xss[i]? = some xs ∧ H b = some (.tup (xs.map V.int))
  | _, _, _, _, .nil, e => by simp at e
  | _, _, 0, _, .cons h _, e => by
    simp at e
    subst e
    exact ⟨_, rfl, h⟩
  | _, _, i + 1, b, .cons _ r, e => by
    obtain ⟨xs, h1, h2⟩ := tups_get (i := i) (b := b) r (by simpa using e)
    exact ⟨xs, by simpa using h1, h2⟩
def spMeanBy (K : PySem.W.Frag) (TT : List (Addr × Str)) : Sp := fun vs H Q _ => ∃ (a : Addr) (ws : List Int) (S : Int), vs = [.ref a] ∧ SqT K H a (ws.map V.int) ∧ ws.sum = S ∧ 0 < S ∧ S ≤ 400 ∧ ws.length ≤ 400 ∧ LamX.Tabs TT H ∧
  ∀ (p : Addr) (i n : Nat) (H2 : Hp), IsRound (restsAt S ws) i n → LamX.ExtN H H2 → LamX.Tabs TT H2 → SqT K H2 p (meanV (openO S ws) i n) → Q (.ref p) H2
theorem ok_meanBy {TT : List (Addr × Str)} {f f1 f2 f3 f4 f5 c Pb : Addr} {fd fd1 fd2 fd3 fd4 fd5 : FuncData} (F : Fun K "mean_by" "mean_by" s_mean_by f fd) (hc : fd.code = .ref c) (TB : LamX.TabB base mg c Pb) (hT : (Pb, qLam "mean_by") ∈ TT) (hT1 : ∀ p ∈ TT, p.1 = Pb → p.2 = qLam "mean_by")
    (F_round_from : Fun K "round_from" "round_from" s_round_from f1 fd1) (m_round_from : mg "round_from" = some (.ref f1)) (b_round_from : Binds K fd1 ["start", "move_on"] [])
    (F_summed_by_halves : Fun K "summed_by_halves" "summed_by_halves" s_summed_by_halves f2 fd2) (m_summed_by_halves : mg "summed_by_halves" = some (.ref f2)) (b_summed_by_halves : Binds K fd2 ["opens", "first"] [])
    (F_fraction : Fun K "fraction" "fraction" s_fraction f3 fd3) (m_fraction : mg "fraction" = some (.ref f3)) (b_fraction : Binds K fd3 ["top", "bottom"] [])
    (F_weighed : Fun K "weighed" "weighed" s_weighed f4 fd4) (m_weighed : mg "weighed" = some (.ref f4)) (b_weighed : Binds K fd4 ["opens"] [])
    (F_onward_rests : Fun K "onward_rests" "onward_rests" s_onward_rests f5 fd5) (m_onward_rests : mg "onward_rests" = some (.ref f5)) (b_onward_rests : Binds K fd5 ["rests", "total"] []) (T : Txt mg) : GFn P w K mg base CX0 4 f fd ["weights"] (spMeanBy K TT) := by
  have H_round_from : HFn P w K mg base 2 f1 (spRT K) := ok_roundT F_round_from b_round_from T 2
  have G_summed_by_halves : GFn P w K mg base CX0 2 f2 fd2 ["opens", "first"] (spHalves K) := ok_halves F_summed_by_halves F_fraction m_fraction b_fraction F_weighed m_weighed b_weighed T
  have G_onward_rests : GFn P w K mg base CX0 1 f5 fd5 ["rests", "total"] (spOnwardT K) := ok_onwardT F_onward_rests T
  refine gfun_okC F hc sc_mean_by (fun vs H Q E h => ?_) (fun A outer s H vs Q E hgu hr h => ?_)
  · obtain ⟨a, ws, S, rfl, _⟩ := h
    rfl
  · obtain ⟨a, ws, S, rfl, ha, hsum, S0, S1, hl, tT, q⟩ := h
    have nd := sc_mean_by.nd
    refine ⟨_, (pss_cons (ps_set (i := 1) nd rfl (Or.inr rfl) (pe_callB (k_sumT (K := K) rfl) (by rfl) T.sum (by decide +kernel) (pa_cons (pv 0) pa_nil)))
      (pss_cons (ps_asg (pe_lamF2 (T := TT) ["told", "total"] ["total"] "told" [1] H_round_from hgu (hr.mono (by decide)) (by rfl) m_round_from F_round_from.kp (pe_callTy (k_tupOf (K := K)) (by rfl) T.tuple (by decide +kernel) (pa_cons (pe_lc (own := [("weight", 4)]) rfl nd (pi_tup (pv 0)) (blkOk_by (N := N_mean_by) (sc := defScope s_mean_by) (by decide +kernel)) (fun _ _ _ _ _ => (pg_name (i := 4) nd rfl (Or.inl rfl))) (fun _ _ _ _ _ => pts_nil) (fun _ _ _ _ _ => (pe_op op_mod (pv 4) (pv 1)))) pa_nil)) TB rfl hT hT1 rfl (NdefX.nscope_by (by decide +kernel)) (kind_by (sc := defScope s_mean_by) rfl (by decide +kernel)) (by decide +kernel) rfl (fun _ _ _ _ _ _ => rfl) (fun B outer st HZ f2 c2 hgu hr => (pe_callTy (k_tupOf (K := K)) (by rfl) T.tuple (by decide +kernel) (pa_cons (pe_g G_onward_rests hgu (hr.mono (by decide)) (by rfl) m_onward_rests F_onward_rests.kp b_onward_rests .nil pass0 (pa_cons (pv 0) (pa_cons (pv 1) pa_nil))) pa_nil)))) (k_tg (K := K) (n := 2) rfl (pgs_cons (pg_name (i := 2) nd rfl (Or.inl rfl)) (pgs_cons (pg_name (i := 3) nd rfl (Or.inl rfl)) pgs_nil))))
      (pss_one (ps_ret (pe_g G_summed_by_halves hgu (hr.mono (by decide)) (by rfl) m_summed_by_halves F_summed_by_halves.kp b_summed_by_halves .nil pass0 (pa_cons (pe_lc (own := [("row", 5)]) rfl nd (pi_list (pv 3)) (blkOk_by (N := N_mean_by) (sc := defScope s_mean_by) (by decide +kernel)) (fun _ _ _ _ _ => (pg_name (i := 5) nd rfl (Or.inl rfl))) (fun _ _ _ _ _ => pts_nil) (fun _ _ _ _ _ => (pe_op op_fdivW (pe_callB (k_sumT (K := K) rfl) (by rfl) T.sum (by decide +kernel) (pa_cons (pv 5) pa_nil)) (pv 1)))) (pa_cons (pv 2) pa_nil))))))), ?_⟩
    refine ⟨_, rfl, a, ws, rfl, ha, ?_⟩
    rw [hsum]
    -- the rests that it begins with
    refine ⟨_, rfl, a, rfl, ⟨_, ha⟩, fun D nD => ?_⟩
    refine lc_same (walk_tup (K := K) (a := a) (xs := ws.map V.int)) (by rw [List.length_map]; omega) nD (fun i acc _ => acc = (redu S (ws.take i)).map V.int) rfl (fun _ _ _ _ _ h => h) (fun H5 s5 => sameT s5 ha) ?_ ?_
    · rintro i x acc H5 H6 hi s5 rfl ⟨rfl, hx⟩ R N hR hN
      obtain ⟨z, hz, rfl⟩ : ∃ z, ws[i]? = some z ∧ x = V.int z := by
        rw [List.getElem?_map] at hx
        obtain ⟨z, hz, e⟩ := Option.map_eq_some_iff.mp hx
        exact ⟨z, hz, e.symm⟩
      refine ⟨wipe1 _ _ _, yesI ?_⟩
      refine ⟨_, rfl, _, rfl, _, _, rfl, rfl, S0, hR _ _ (Same.refl _) ?_⟩
      rw [List.take_succ, hz]
      simp [redu]
    · rintro acc H1 s1 hl2 hD rfl
      rw [List.length_map, List.take_length] at hD
      rw [← restsAt_zero] at hD
      refine ⟨D, _, rfl, .inl ⟨SqL.of hD, fun t nt => ?_⟩⟩
      have s2 : Same H (upd H1 t (.tup ((restsAt S ws 0).map V.int))) := s1.trans (same_new nt)
      have ht : upd H1 t (.tup ((restsAt S ws 0).map V.int)) t = some (.tup ((restsAt S ws 0).map V.int)) := upd_same
      generalize upd H1 t (.tup ((restsAt S ws 0).map V.int)) = H2 at s2 ht ⊢
      refine ⟨tT.ext s2, fun H3 ext t3 => ?_⟩
      have bound : ∀ n, (∀ a b, a < b → b < n → restsAt S ws a ≠ restsAt S ws b) → (n : Int) ≤ S := fun n h => round_le S0 ws h
      refine ⟨restsAt S ws, S.toNat, t, rfl, ext _ _ ht nofun, by omega, fun n h => ?_, fun k u HZ R sZ hu hR => ?_, fun p l bs i n H4 hrd s4 hp hl4 tu => ?_⟩
      · have := bound n h
        omega
      · refine ⟨_, rfl, _, rfl, u, S, restsAt S ws k, rfl, S0, .inl (.inl hu), by rw [rests_len]; exact hl, fun b H5 s5 hb => ⟨b, _, rfl, .inl ⟨SqL.of hb, fun r nr => hR r _ (s5.trans (same_new nr)) ?_⟩⟩⟩
        rw [upd_same, restsAt_succ]
      · refine ⟨p, _, rfl, hp, rfl, _, _, rfl, _, _, rfl, rfl, ?_⟩
        have nS := bound n hrd.2.2
        have bl : bs.length = n := by
          rw [tups_len tu]
          simp
        refine ⟨_, rfl, l, rfl, ⟨_, SqL.of hl4⟩, fun D2 nD2 => ?_⟩
        refine lc_same (walk_list (K := K) (a := l) (xs := bs.map V.ref)) (by rw [List.length_map]; omega) nD2 (fun i acc _ => acc = (opensTo (openO S ws) i).map V.int) rfl (fun _ _ _ _ _ h => h) (fun H5 s5 => s5.seq (SqL.of hl4)) ?_ ?_
        · rintro j x acc H5 H6 hj s5 rfl ⟨rfl, hx⟩ R N hR hN
          obtain ⟨b, hb, rfl⟩ : ∃ b, bs[j]? = some b ∧ x = V.ref b := by
            rw [List.getElem?_map] at hx
            obtain ⟨z, hz, e⟩ := Option.map_eq_some_iff.mp hx
            exact ⟨z, hz, e.symm⟩
          have jn : j < n := by
            have := (List.getElem?_eq_some_iff.mp hb).1
            omega
          obtain ⟨xs, h1, h2⟩ := tups_get tu hb
          obtain rfl : restsAt S ws j = xs := by
            rw [List.getElem?_map, List.getElem?_range jn] at h1
            exact Option.some.inj h1
          refine ⟨wipe1 _ _ _, yesI ?_⟩
          refine ⟨_, rfl, b, _, rfl, .inl (.inl (s5 _ _ h2)), _, rfl, _, _, rfl, rfl, wide_div (b := 200) S0 (bits_lt (by omega) (Int.lt_of_le_of_lt S1 (by decide))) (by decide) (by decide), hR _ _ (Same.refl _) ?_⟩
          unfold opensTo
          rw [List.range_succ, List.map_append, List.map_append]
          rfl
        · rintro acc H5 s5 hl5 hD5 rfl
          rw [List.length_map, bl] at hD5
          refine ⟨_, rfl, D2, openO S ws, i, n, rfl, SqL.of hD5, hrd.1, by omega, fun k => ?_, fun p2 H6 s6 h6 => ?_⟩
          · have z := open_in S0 ws k
            omega
          · have s46 := s4.trans (s5.trans s6)
            exact q p2 i n H6 hrd ((LamX.ExtN.of s2).trans (ext.trans (.of s46))) (t3.ext s46) h6
end
end SG

namespace SG
open PySem PySem.Spec PyProof.Rows L2 TL
open SX (S S_tl S_len)
section
variable {P : Program} {w : World} {K : PySem.W.Frag} {mg : Str → Option Value} {base : Heap}
def isBit (g : Nat) : Prop := g = 48 ∨ g = 49
def bitsOf (gs : List Nat) : List Int := gs.map fun g : Nat => ((g : Nat) : Int) - 48
def Out.nm : Out → Str
  | .drawn _ _ => "drawn"
  | .opened _ _ => "open"
def Out.fst : Out → Int
  | .drawn x _ => x
  | .opened x _ => x
def Out.snd : Out → Int
  | .drawn _ y => y
  | .opened _ y => y
def outV (o : Out) : List V := [.str o.nm, .int o.fst, .int o.snd]
def outD (o : Out) : PyData := .tuple [.str o.nm, .int o.fst, .int o.snd]
theorem int_bit {g : Nat} (h : isBit g) : PySem.intText? ⟨#[g]⟩ = some ((g : Int) - 48) := by
  rcases h with rfl | rfl
  · decide +kernel
  · decide +kernel
def spDue (K : PySem.W.Frag) : Sp := fun vs H Q _ => ∃ (m : Nat) (gs : List Nat), vs = [.int m, .str (S gs)] ∧ 1 ≤ m ∧ m < 10 ^ 60 ∧ gs.length ≤ 400 ∧ (∀ g ∈ gs, isBit g) ∧
  ∀ (p : Addr) (H2 : Hp), Same H H2 → SqT K H2 p (outV (due m (bitsOf gs))) → Q (.ref p) H2
theorem bit_tell {σ : L2.St} {H : Hp} {Q : VK} {i : Nat} {g : Nat} (h : isBit g) (e : σ[i]? = some (some (.str ⟨#[g]⟩))) (q : Q (.int ((g : Int) - 48)) H) : tIf (tTest (tOp rEq (tVar i) (tC (V.str "1")))) (tC (V.int 1)) (tC (V.int 0)) σ H Q := by
  refine ⟨_, e, rfl, _, rfl, ?_⟩
  rcases h with rfl | rfl
  · have z : decide (V.str ⟨#[48]⟩ = V.str "1") = false := by decide +kernel
    exact ifF z q
  · have z : decide (V.str ⟨#[49]⟩ = V.str "1") = true := by decide +kernel
    exact ifT z q
theorem ok_drawP {f : Addr} {fd : FuncData} (F : Fun K "draw" "draw" s_draw f fd) (T : Txt mg) : GFn P w K mg base CX0 1 f fd ["many", "tosses"] (spDue K) := by
  refine gfun_ok F sc_draw (fun vs H Q E h => ?_) (fun cdv A outer s H vs Q E hgu hr h => ?_)
  · obtain ⟨m, gs, rfl, _⟩ := h
    rfl
  · obtain ⟨m, gs, rfl, m1, m2, hl, hg, q⟩ := h
    have nd := sc_draw.nd
    have bl : (bitsOf gs).length = gs.length := List.length_map _
    have nn : ∀ x ∈ bitsOf gs, 0 ≤ x := by
      intro x hx
      obtain ⟨g, hm, rfl⟩ := List.mem_map.mp hx
      rcases hg g hm with rfl | rfl <;> decide
    refine ⟨_, (pss_cons (ps_if (pt_cmpR op_eq (pv 0) pe_int (nomark _)) (pss_one (ps_ret (pe_tup (pa_cons pe_str (pa_cons pe_int (pa_cons pe_int pa_nil)))))) pss_nil)
      (pss_cons (ps_set (i := 2) nd rfl (Or.inl rfl) pe_int)
      (pss_cons (ps_set (i := 3) nd rfl (Or.inl rfl) pe_int)
      (pss_cons (ps_for PassesOwn.never rfl (pi_enumS (by rfl) T.enumerate (pa_cons (pv 1) pa_nil) (pk_cons pe_int pk_nil)) (k_tg (K := K) (n := 2) rfl (pgs_cons (pg_name (i := 4) nd rfl (Or.inl rfl)) (pgs_cons (pg_name (i := 5) nd rfl (Or.inl rfl)) pgs_nil)))
        (pss_cons (ps_set (i := 2) nd rfl (Or.inl rfl) (pe_op op_mul pe_int (pv 2)))
      (pss_cons (ps_set (i := 3) nd rfl (Or.inl rfl) (pe_op op_add (pe_op op_mul pe_int (pv 3)) (pe_ifExp (pt_cmpR op_eq (pv 5) pe_str (nomark _)) pe_int pe_int)))
      (pss_one (ps_if (pt_cmpR op_ge (pv 2) (pv 0) (nomark _)) (pss_cons (ps_if (pt_cmpR op_lt (pv 3) (pv 0) (nomark _)) (pss_one (ps_ret (pe_tup (pa_cons pe_str (pa_cons (pv 3) (pa_cons (pv 4) pa_nil)))))) pss_nil)
      (pss_cons (ps_aug (i := 2) nd rfl (Or.inl rfl) (pv 0) ip_sub)
      (pss_one (ps_aug (i := 3) nd rfl (Or.inl rfl) (pv 0) ip_sub)))) pss_nil)))))
      (pss_one (ps_ret (pe_tup (pa_cons pe_str (pa_cons (pv 2) (pa_cons (pv 3) pa_nil)))))))))), ?_⟩
    refine ⟨_, rfl, rfl, _, rfl, ite2 (fun h1 => ?_) (fun h1 => ?_)⟩
    · rw [dec_int, beq_iff_eq] at h1
      refine ⟨by show 3 ≤ sizeLine; decide, fun z nz => q z _ (same_new nz) (.inl (.inl ?_))⟩
      rw [upd_same, h1, due_one]
      rfl
    · rw [dec_int, beq_iff_eq] at h1
      have hm : (1 : Int) < m := by omega
      refine ⟨_, rfl, S gs, 1, rfl, rfl, by decide, for_it walk_enumS (fun i σ HI => ∃ (ps p : Int) (y4 y5 : Option V), σ = [some (.int m), some (.str (S gs)), some (.int ps), some (.int p), y4, y5] ∧ Same H HI ∧
        drawF m ps p i ((bitsOf gs).drop i) = due m (bitsOf gs)) ⟨1, 0, none, none, rfl, Same.refl _, ?_⟩ (fun _ _ _ _ _ => trivial) ?_ ?_⟩
      · rw [due_drawF hm _ nn]
        rfl
      · rintro i x σ HI HJ hi ⟨ps, p, y4, y5, rfl, sH, hd⟩ ⟨t, c, rfl, nt, hc, rfl⟩
        have hi2 : i < gs.length := hi
        have ec : gs[i] = c := by
          have z : gs[i]? = some c := by simpa [S] using hc
          rw [List.getElem?_eq_getElem hi2] at z
          exact Option.some.inj z
        have hb := hg _ (List.getElem_mem hi2)
        have eb : (bitsOf gs).drop i = ((gs[i] : Int) - 48) :: (bitsOf gs).drop (i + 1) := by
          rw [List.drop_eq_getElem_cons (by rw [bl]; exact hi2)]
          simp [bitsOf]
        rw [ec] at hb eb
        rw [eb] at hd
        have sJ := sH.trans (same_new (o := .tup [.int ((1 + i : Nat) : Int), .str ⟨#[c]⟩]) nt)
        refine ⟨t, _, rfl, .inl (.inl upd_same), rfl, _, _, rfl, _, _, rfl, rfl, ?_⟩
        generalize upd HI t (.tup [.int ((1 + i : Nat) : Int), .str ⟨#[c]⟩]) = HK at sJ ⊢
        refine ⟨_, rfl, _, _, rfl, rfl, .inl ⟨by decide, by decide⟩, ?_⟩
        refine ⟨_, rfl, _, _, rfl, rfl, .inl ⟨by decide, by decide⟩, ?_⟩
        refine bit_tell hb rfl ⟨_, _, rfl, rfl, ?_⟩
        have step : drawF m ps p i (((c : Int) - 48) :: (bitsOf gs).drop (i + 1)) = if (m : Int) ≤ 2 * ps then (if 2 * p + ((c : Int) - 48) < m then .drawn (2 * p + ((c : Int) - 48)) (i + 1) else drawF m (2 * ps - m) (2 * p + ((c : Int) - 48) - m) (i + 1) ((bitsOf gs).drop (i + 1))) else drawF m (2 * ps) (2 * p + ((c : Int) - 48)) (i + 1) ((bitsOf gs).drop (i + 1)) := rfl
        rw [step] at hd
        refine ⟨_, rfl, _, rfl, _, _, rfl, rfl, _, rfl, ite2 (fun h2 => ?_) (fun h2 => ?_)⟩
        · have h2 := of_decide_eq_true h2
          rw [if_pos h2] at hd
          refine ⟨_, rfl, _, rfl, _, _, rfl, rfl, _, rfl, ite2 (fun h3 => ?_) (fun h3 => ?_)⟩
          · have h3 := of_decide_eq_true h3
            rw [if_pos h3] at hd
            refine ⟨_, rfl, _, rfl, by show 3 ≤ sizeLine; decide, fun z nz => q z _ (sJ.trans (same_new nz)) (.inl (.inl ?_))⟩
            rw [upd_same, ← hd, show ((1 + i : Nat) : Int) = (i : Int) + 1 by omega]
            rfl
          · have h3 : ¬ (2 * p + ((c : Int) - 48) < m) := fun z => h3 (decide_eq_true z)
            rw [if_neg h3] at hd
            exact ⟨_, rfl, _, rfl, _, _, rfl, rfl, _, rfl, _, rfl, _, _, rfl, rfl, _, _, _, _, rfl, sJ, hd⟩
        · have h2 : ¬ ((m : Int) ≤ 2 * ps) := fun z => h2 (decide_eq_true z)
          rw [if_neg h2] at hd
          exact ⟨_, _, _, _, rfl, sJ, hd⟩
      · rintro σ HI ⟨ps, p, y4, y5, rfl, sH, hd⟩
        have e0 : (bitsOf gs).drop (S gs).cps.size = [] := List.drop_eq_nil_of_le (by rw [bl]; exact Nat.le_refl _)
        rw [e0] at hd
        refine ⟨_, rfl, _, rfl, by show 3 ≤ sizeLine; decide, fun z nz => q z _ (sH.trans (same_new nz)) (.inl (.inl ?_))⟩
        rw [upd_same, ← hd]
        rfl

end
end SG

/-! Small data in which empty dicts stand; it stays while the deck is drawn from. -/
namespace SG
open PySem PySem.Spec PyProof.Rows L2
mutual
/-- whole numbers to m either way, plain texts of at most t signs, no dict but empty ones -/
def fitD (m t : Nat) : PyData → Bool
  | .int i => decide (i.natAbs ≤ m)
  | .str z => z.cps.toList.all (fun c => decide (c < 128)) && decide (z.length ≤ t)
  | .list xs => fitA m t xs
  | .tuple xs => fitA m t xs
  | .dict kvs => kvs.isEmpty
  | .none => true
  | .bool _ => true
def fitA (m t : Nat) : List PyData → Bool
  | [] => true
  | x :: xs => fitD m t x && fitA m t xs
end
mutual
theorem fit_told {m t : Nat} (hm : m < 10 ^ 4300) : ∀ D : PyData, fitD m t D = true → tellE D = true ∧ D.leavesShort 4302 = true
  | .int i, h => by
    have h : i.natAbs ≤ m := of_decide_eq_true (by simpa only [fitD] using h)
    have hi : i.natAbs < 10 ^ 4300 := Nat.lt_of_le_of_lt h hm
    exact ⟨by simp only [tellE]; exact decide_eq_true hi, (OkD.int hi).short⟩
  | .str z, h => by
    have h := h
    simp only [fitD, Bool.and_eq_true, List.all_eq_true, decide_eq_true_eq] at h
    refine ⟨by simp [tellE], ?_⟩
    simp only [PyData.leavesShort, List.all_eq_true, decide_eq_true_eq]
    exact fun c hc => Nat.lt_of_lt_of_le (h.1 c hc) (by decide)
  | .list xs, h => by
    have z := fitA_told (t := t) hm xs (by simpa only [fitD] using h)
    exact ⟨by simpa only [tellE] using z.1, by simpa only [PyData.leavesShort] using z.2⟩
  | .tuple xs, h => by
    have z := fitA_told (t := t) hm xs (by simpa only [fitD] using h)
    exact ⟨by simpa only [tellE] using z.1, by simpa only [PyData.leavesShort] using z.2⟩
  | .dict [], _ => by simp [tellE, PyData.leavesShort, PyData.leavesShortKv]
  | .dict (_ :: _), h => by simp [fitD] at h
  | .none, _ => by simp [tellE, PyData.leavesShort]
  | .bool _, _ => by simp [tellE, PyData.leavesShort]
theorem fitA_told {m t : Nat} (hm : m < 10 ^ 4300) : ∀ ds : List PyData, fitA m t ds = true → tellEAll ds = true ∧ PyData.leavesShortAll 4302 ds = true
  | [], _ => by simp [tellEAll, PyData.leavesShortAll]
  | d :: ds, h => by
    have h2 : fitD m t d = true ∧ fitA m t ds = true := by simpa only [fitA, Bool.and_eq_true] using h
    have z1 := fit_told hm d h2.1
    have z2 := fitA_told hm ds h2.2
    simp only [tellEAll, PyData.leavesShortAll, z1.1, z1.2, z2.1, z2.2, Bool.and_self, and_self]
end
mutual
theorem fit_mono {m t m2 t2 : Nat} (h1 : m ≤ m2) (h2 : t ≤ t2) : ∀ D : PyData, fitD m t D = true → fitD m2 t2 D = true
  | .int i, h => by
    have h : i.natAbs ≤ m := of_decide_eq_true (by simpa only [fitD] using h)
    simp only [fitD]
    exact decide_eq_true (by omega)
  | .str z, h => by
    simp only [fitD, Bool.and_eq_true, decide_eq_true_eq] at h ⊢
    exact ⟨h.1, by omega⟩
  | .list xs, h => by
    simp only [fitD] at h ⊢
    exact fitA_mono h1 h2 xs h
  | .tuple xs, h => by
    simp only [fitD] at h ⊢
    exact fitA_mono h1 h2 xs h
  | .dict _, h => by simpa only [fitD] using h
  | .none, _ => by simp [fitD]
  | .bool _, _ => by simp [fitD]
theorem fitA_mono {m t m2 t2 : Nat} (h1 : m ≤ m2) (h2 : t ≤ t2) : ∀ ds : List PyData, fitA m t ds = true → fitA m2 t2 ds = true
  | [], _ => by simp [fitA]
  | d :: ds, h => by
    have h3 : fitD m t d = true ∧ fitA m t ds = true := by simpa only [fitA, Bool.and_eq_true] using h
    simp only [fitA, fit_mono h1 h2 d h3.1, fitA_mono h1 h2 ds h3.2, Bool.and_self]
end
theorem fitA_mem {m t : Nat} : ∀ {ds : List PyData}, fitA m t ds = true → ∀ d ∈ ds, fitD m t d = true
  | d :: ds, h, e, he => by
    have h3 : fitD m t d = true ∧ fitA m t ds = true := by simpa only [fitA, Bool.and_eq_true] using h
    rcases List.mem_cons.mp he with rfl | he
    · exact h3.1
    · exact fitA_mem h3.2 e he
theorem fitA_of {m t : Nat} : ∀ {ds : List PyData}, (∀ d ∈ ds, fitD m t d = true) → fitA m t ds = true
  | [], _ => by simp [fitA]
  | d :: ds, h => by simp only [fitA, h d List.mem_cons_self, fitA_of fun e he => h e (List.mem_cons_of_mem _ he), Bool.and_self]
theorem bulkA_app : ∀ (a b : List PyData), PyData.bulkAll (a ++ b) = PyData.bulkAll a + PyData.bulkAll b
  | [], b => by simp [PyData.bulkAll]
  | d :: a, b => by
    have := bulkA_app a b
    simp only [List.cons_append, PyData.bulkAll, this]
    omega
theorem bulkA_rev : ∀ a : List PyData, PyData.bulkAll a.reverse = PyData.bulkAll a
  | [] => rfl
  | d :: a => by
    have := bulkA_rev a
    rw [List.reverse_cons, bulkA_app, this]
    simp only [PyData.bulkAll]
    omega
theorem bulkA_take (a : List PyData) (n : Nat) : PyData.bulkAll (a.take n) ≤ PyData.bulkAll a := by
  have := bulkA_app (a.take n) (a.drop n)
  rw [List.take_append_drop] at this
  omega
theorem bulkA_drop (a : List PyData) (n : Nat) : PyData.bulkAll (a.drop n) ≤ PyData.bulkAll a := by
  have := bulkA_app (a.take n) (a.drop n)
  rw [List.take_append_drop] at this
  omega
theorem bulkA_mem : ∀ {a : List PyData} {d : PyData}, d ∈ a → d.bulk + 1 ≤ PyData.bulkAll a
  | e :: a, d, h => by
    simp only [PyData.bulkAll]
    rcases List.mem_cons.mp h with rfl | h
    · omega
    · have := bulkA_mem h
      omega
theorem bulkA_len : ∀ a : List PyData, a.length ≤ PyData.bulkAll a
  | [] => Nat.zero_le _
  | d :: a => by
    have := bulkA_len a
    simp only [PyData.bulkAll, List.length_cons]
    omega
theorem depthA_of {n : Nat} : ∀ {ds : List PyData}, (∀ d ∈ ds, d.depth ≤ n) → PyData.depthAll ds ≤ n
  | [], _ => by simp [PyData.depthAll]
  | d :: ds, h => by
    simp only [PyData.depthAll]
    exact Nat.max_le.mpr ⟨h d List.mem_cons_self, depthA_of fun e he => h e (List.mem_cons_of_mem _ he)⟩
/-- small: how deep, how much in all, how great its numbers, how long its texts -/
structure Sx (n b m t : Nat) (D : PyData) : Prop where
  dep : D.depth ≤ n
  bulk : D.bulk ≤ b
  fit : fitD m t D = true
structure SxA (n b m t : Nat) (ds : List PyData) : Prop where
  dep : ∀ d ∈ ds, d.depth ≤ n
  bulk : PyData.bulkAll ds ≤ b
  fit : ∀ d ∈ ds, fitD m t d = true
section
variable {n b m t n2 b2 m2 t2 : Nat} {D : PyData} {ds es : List PyData}
theorem Sx.mono (h : Sx n b m t D) (h1 : n ≤ n2) (h2 : b ≤ b2) (h3 : m ≤ m2) (h4 : t ≤ t2) : Sx n2 b2 m2 t2 D := ⟨Nat.le_trans h.dep h1, Nat.le_trans h.bulk h2, fit_mono h3 h4 _ h.fit⟩
theorem SxA.mono (h : SxA n b m t ds) (h1 : n ≤ n2) (h2 : b ≤ b2) (h3 : m ≤ m2) (h4 : t ≤ t2) : SxA n2 b2 m2 t2 ds := ⟨fun d hd => Nat.le_trans (h.dep d hd) h1, Nat.le_trans h.bulk h2, fun d hd => fit_mono h3 h4 _ (h.fit d hd)⟩
theorem SxA.tuple (h : SxA n b m t ds) : Sx (n + 1) b m t (.tuple ds) := ⟨by simp only [PyData.depth]; have := depthA_of h.dep; omega, by simpa only [PyData.bulk] using h.bulk, by simp only [fitD]; exact fitA_of h.fit⟩
theorem SxA.list (h : SxA n b m t ds) : Sx (n + 1) b m t (.list ds) := ⟨by simp only [PyData.depth]; have := depthA_of h.dep; omega, by simpa only [PyData.bulk] using h.bulk, by simp only [fitD]; exact fitA_of h.fit⟩
theorem Sx.items (h : Sx n b m t (.tuple ds)) : 1 ≤ n ∧ SxA (n - 1) b m t ds := by
  have h1 := h.dep
  simp only [PyData.depth] at h1
  refine ⟨by omega, fun d hd => ?_, by simpa only [PyData.bulk] using h.bulk, fitA_mem (by simpa only [fitD] using h.fit)⟩
  have := depth_mem hd
  omega
theorem SxA.nil : SxA n b m t [] := ⟨fun _ h => (nomatch h), by simp [PyData.bulkAll], fun _ h => (nomatch h)⟩
theorem SxA.app (h : SxA n b m t ds) (k : SxA n b2 m t es) : SxA n (b + b2) m t (ds ++ es) :=
  ⟨fun d hd => (List.mem_append.mp hd).elim (h.dep d) (k.dep d), by rw [bulkA_app]; have := h.bulk; have := k.bulk; omega, fun d hd => (List.mem_append.mp hd).elim (h.fit d) (k.fit d)⟩
theorem SxA.one (h : Sx n b m t D) : SxA n (b + 1) m t [D] := ⟨fun d hd => by rw [List.mem_singleton.mp hd]; exact h.dep, by simp only [PyData.bulkAll]; have := h.bulk; omega, fun d hd => by rw [List.mem_singleton.mp hd]; exact h.fit⟩
theorem SxA.take (h : SxA n b m t ds) (k : Nat) : SxA n b m t (ds.take k) := ⟨fun d hd => h.dep d (List.mem_of_mem_take hd), Nat.le_trans (bulkA_take _ _) h.bulk, fun d hd => h.fit d (List.mem_of_mem_take hd)⟩
theorem SxA.drop (h : SxA n b m t ds) (k : Nat) : SxA n b m t (ds.drop k) := ⟨fun d hd => h.dep d (List.mem_of_mem_drop hd), Nat.le_trans (bulkA_drop _ _) h.bulk, fun d hd => h.fit d (List.mem_of_mem_drop hd)⟩
theorem SxA.rev (h : SxA n b m t ds) : SxA n b m t ds.reverse := ⟨fun d hd => h.dep d (List.mem_reverse.mp hd), by rw [bulkA_rev]; exact h.bulk, fun d hd => h.fit d (List.mem_reverse.mp hd)⟩
theorem Sx.short (h : Sx n b m t D) (hb : b ≤ 3000) (hm : m < 10 ^ 4300) : D.shown.length ≤ sizeLine := by
  have z := PyData.shown_le_bulk 4302 (by decide) D (fit_told hm D h.fit).2
  have z2 : (4302 + 2) * D.bulk ≤ 4304 * 3000 := Nat.mul_le_mul (Nat.le_refl _) (Nat.le_trans h.bulk hb)
  rw [sizeLine_eq]
  omega
end
/-! ### what stays while the deck is drawn from -/
mutual
/-- v is the data D, held by no object of the deck -/
inductive Dy (K : PySem.W.Frag) (d l : Addr) (H : Hp) : V → PyData → Prop
  | non : Dy K d l H .non .none
  | bl (b : Bool) : Dy K d l H (.bl b) (.bool b)
  | int (i : Int) : Dy K d l H (.int i) (.int i)
  | str (z : Str) : Dy K d l H (.str z) (.str z)
  | lst {p : Addr} {xs : List V} {es : List PyData} (hq : H p = some (.lst xs)) (n1 : p ≠ d) (n2 : p ≠ l) (ha : DyAll K d l H xs es) : Dy K d l H (.ref p) (.list es)
  | tup {p : Addr} {xs : List V} {es : List PyData} (hq : SqT K H p xs) (ha : DyAll K d l H xs es) : Dy K d l H (.ref p) (.tuple es)
  | dct {p : Addr} (hp : H p = some (.dK [])) (n1 : p ≠ d) (n2 : p ≠ l) : Dy K d l H (.ref p) (.dict [])
inductive DyAll (K : PySem.W.Frag) (d l : Addr) (H : Hp) : List V → List PyData → Prop
  | nil : DyAll K d l H [] []
  | cons {x : V} {xs : List V} {e : PyData} {es : List PyData} (hx : Dy K d l H x e) (ht : DyAll K d l H xs es) : DyAll K d l H (x :: xs) (e :: es)
end
section
variable {K : PySem.W.Frag} {d l : Addr} {c : Nat} {H H2 : Hp}
mutual
theorem dy_dx : ∀ {x : V} {D : PyData}, Dy K d l H x D → Dx K H x D
  | _, _, .non => .non
  | _, _, .bl b => .bl b
  | _, _, .int i => .int i
  | _, _, .str t => .str t
  | _, _, .lst q _ _ a => .lst (SqL.of q) (dyA_dx a)
  | _, _, .tup q a => .tup q (dyA_dx a)
  | _, _, .dct h _ _ => .dct h
theorem dyA_dx : ∀ {xs : List V} {ds : List PyData}, DyAll K d l H xs ds → DxAll K H xs ds
  | _, _, .nil => .nil
  | _, _, .cons a b => .cons (dy_dx a) (dyA_dx b)
end
mutual
theorem dy_kept (Dk : Dek H d l c) (k : Kept d l H H2) : ∀ {x : V} {D : PyData}, Dy K d l H x D → Dy K d l H2 x D
  | _, _, .non => .non
  | _, _, .bl b => .bl b
  | _, _, .int i => .int i
  | _, _, .str t => .str t
  | _, _, .lst q n1 n2 a => .lst (k _ _ q n1 n2) n1 n2 (dyA_kept Dk k a)
  | _, _, .tup q a => .tup (k.tupG Dk q) (dyA_kept Dk k a)
  | _, _, .dct h n1 n2 => .dct (k _ _ h n1 n2) n1 n2
theorem dyA_kept (Dk : Dek H d l c) (k : Kept d l H H2) : ∀ {xs : List V} {ds : List PyData}, DyAll K d l H xs ds → DyAll K d l H2 xs ds
  | _, _, .nil => .nil
  | _, _, .cons a b => .cons (dy_kept Dk k a) (dyA_kept Dk k b)
end
mutual
theorem dy_same (s : Same H H2) : ∀ {x : V} {D : PyData}, Dy K d l H x D → Dy K d l H2 x D
  | _, _, .non => .non
  | _, _, .bl b => .bl b
  | _, _, .int i => .int i
  | _, _, .str t => .str t
  | _, _, .lst q n1 n2 a => .lst (s _ _ q) n1 n2 (dyA_same s a)
  | _, _, .tup q a => .tup (sameT s q) (dyA_same s a)
  | _, _, .dct h n1 n2 => .dct (s _ _ h) n1 n2
theorem dyA_same (s : Same H H2) : ∀ {xs : List V} {ds : List PyData}, DyAll K d l H xs ds → DyAll K d l H2 xs ds
  | _, _, .nil => .nil
  | _, _, .cons a b => .cons (dy_same s a) (dyA_same s b)
end
theorem dyA_len : ∀ {xs : List V} {ds : List PyData}, DyAll K d l H xs ds → xs.length = ds.length
  | _, _, .nil => rfl
  | _, _, .cons _ b => congrArg (· + 1) (dyA_len b)
theorem dyA_get : ∀ {xs : List V} {ds : List PyData} {i : Nat} {x : V}, DyAll K d l H xs ds → xs[i]? = some x → ∃ D, ds[i]? = some D ∧ Dy K d l H x D
  | _, _, _, _, .nil, e => by simp at e
  | _, _, 0, _, .cons a b, e => by
    simp at e
    subst e
    exact ⟨_, rfl, a⟩
  | _, _, i + 1, x, .cons a b, e => by
    obtain ⟨D, h1, h2⟩ := dyA_get (i := i) (x := x) b (by simpa using e)
    exact ⟨D, by simpa using h1, h2⟩
theorem dyA_app : ∀ {xs ys : List V} {ds es : List PyData}, DyAll K d l H xs ds → DyAll K d l H ys es → DyAll K d l H (xs ++ ys) (ds ++ es)
  | _, _, _, _, .nil, h => h
  | _, _, _, _, .cons a b, h => .cons a (dyA_app b h)
theorem dyA_take : ∀ {xs : List V} {ds : List PyData} (n : Nat), DyAll K d l H xs ds → DyAll K d l H (xs.take n) (ds.take n)
  | _, _, 0, _ => .nil
  | _, _, _ + 1, .nil => .nil
  | _, _, n + 1, .cons a b => .cons a (dyA_take n b)
theorem dyA_drop : ∀ {xs : List V} {ds : List PyData} (n : Nat), DyAll K d l H xs ds → DyAll K d l H (xs.drop n) (ds.drop n)
  | _, _, 0, h => h
  | _, _, _ + 1, .nil => .nil
  | _, _, n + 1, .cons a b => dyA_drop n b
theorem dyA_rev : ∀ {xs : List V} {ds : List PyData}, DyAll K d l H xs ds → DyAll K d l H xs.reverse ds.reverse
  | _, _, .nil => .nil
  | _, _, .cons a b => by
    rw [List.reverse_cons, List.reverse_cons]
    exact dyA_app (dyA_rev b) (.cons a .nil)
theorem dyA_ints : ∀ ns : List Int, DyAll K d l H (ns.map V.int) (dI ns)
  | [] => .nil
  | n :: ns => .cons (.int n) (dyA_ints ns)
theorem dy_tuple {x : V} {ds : List PyData} (h : Dy K d l H x (.tuple ds)) : ∃ a xs, x = .ref a ∧ SqT K H a xs ∧ DyAll K d l H xs ds := by
  cases h with
  | tup q a => exact ⟨_, _, rfl, q, a⟩
/-- a part cut out -/
theorem dyA_cut {xs : List V} {ds : List PyData} (h : DyAll K d l H xs ds) {n b m t : Nat} (s : SxA n b m t ds) (lo hi : Option Int) : ∃ es, DyAll K d l H (cutV xs lo hi) es ∧ SxA n b m t es :=
  ⟨_, dyA_take _ (dyA_drop _ h), (s.drop _).take _⟩
end
end SG

/-! Readings of literals and parts that give small data, while a deck stands. -/
namespace SG
open PySem PySem.Spec PyProof.Rows L2
/-! ### plain texts -/
def Asc (z : Str) : Prop := ∀ c ∈ z.cps.toList, c < 128
theorem Sx.str {n b m t : Nat} {z : Str} (h : Asc z) (h1 : z.length ≤ t) (h2 : z.length ≤ b) : Sx n b m t (.str z) :=
  ⟨by simp [PyData.depth], by simp only [PyData.bulk]; exact h2, by simp only [fitD, Bool.and_eq_true, List.all_eq_true, decide_eq_true_eq]; exact ⟨h, h1⟩⟩
theorem Sx.int {n b m t : Nat} {i : Int} (h : i.natAbs ≤ m) : Sx n b m t (.int i) := ⟨by simp [PyData.depth], by simp [PyData.bulk], by simp only [fitD]; exact decide_eq_true h⟩
theorem Sx.bool {n b m t : Nat} (k : Bool) : Sx n b m t (.bool k) := ⟨by simp [PyData.depth], by simp [PyData.bulk], by simp [fitD]⟩
theorem Sx.none {n b m t : Nat} : Sx n b m t .none := ⟨by simp [PyData.depth], by simp [PyData.bulk], by simp [fitD]⟩
theorem Sx.dict0 {n b m t : Nat} (hn : 1 ≤ n) : Sx n b m t (.dict []) := ⟨by simp only [PyData.depth, PyData.depthKv]; omega, by simp [PyData.bulk, PyData.bulkKv], by simp [fitD]⟩
theorem Sx.asc {n b m t : Nat} {z : Str} (h : Sx n b m t (.str z)) : Asc z ∧ z.length ≤ t ∧ z.length ≤ b := by
  have f := h.fit
  have k := h.bulk
  simp only [fitD, Bool.and_eq_true, List.all_eq_true, decide_eq_true_eq] at f
  simp only [PyData.bulk] at k
  exact ⟨f.1, f.2, k⟩
theorem asc_cat {a b : Str} (ha : Asc a) (hb : Asc b) : Asc (a ++ b) := fun c hc => by
  have e : (a ++ b).cps.toList = a.cps.toList ++ b.cps.toList := TL.tl_append a b
  rw [e] at hc
  exact (List.mem_append.mp hc).elim (ha c) (hb c)
theorem len_cat (a b : Str) : (a ++ b).length = a.length + b.length := by
  have e : (a ++ b).cps.toList = a.cps.toList ++ b.cps.toList := TL.tl_append a b
  have := congrArg List.length e
  rw [List.length_append] at this
  simpa [Str.length] using this
theorem asc_upper1 : ∀ c, c < 128 → (Unicode.upperOf c).all (fun e => decide (e < 128)) = true ∧ (Unicode.upperOf c).length = 1 := by decide +kernel
theorem upper_list (z : Str) : (Txt.upper z).cps.toList = z.cps.toList.flatMap Unicode.upperOf := by
  unfold Txt.upper placed
  show ((z.cps.mapIdx fun _ c => (Unicode.upperOf c).toArray).flatten).toList = _
  rw [Array.toList_flatten, Array.toList_mapIdx]
  have e : (z.cps.toList.mapIdx fun _ c => (Unicode.upperOf c).toArray) = z.cps.toList.map fun c => (Unicode.upperOf c).toArray := by
    refine List.ext_getElem (by simp) fun i h1 h2 => by simp
  rw [e, List.map_map]
  rfl
theorem asc_upper {z : Str} (h : Asc z) : Asc (Txt.upper z) ∧ (Txt.upper z).length = z.length := by
  have e := upper_list z
  constructor
  · intro c hc
    rw [e] at hc
    obtain ⟨x, hx, hc⟩ := List.mem_flatMap.mp hc
    have := List.all_eq_true.mp (asc_upper1 x (h x hx)).1 c hc
    exact of_decide_eq_true this
  · have l := congrArg List.length e
    have k : ∀ xs : List Nat, (∀ c ∈ xs, c < 128) → (xs.flatMap Unicode.upperOf).length = xs.length := by
      intro xs
      induction xs with
      | nil => intro _; rfl
      | cons a r ih =>
        intro hh
        rw [List.flatMap_cons, List.length_append, ih fun c hc => hh c (List.mem_cons_of_mem _ hc), (asc_upper1 a (hh a List.mem_cons_self)).2, List.length_cons]
        omega
    rw [k _ h] at l
    simpa [Str.length] using l
theorem cut_mem {z : Str} (lo hi : Option Int) (h : Asc z) : Asc (cutS z lo hi) ∧ (cutS z lo hi).length ≤ z.length := by
  refine ⟨fun c hc => ?_, cutS_length z lo hi⟩
  refine h c ?_
  have hc2 : c ∈ ((z.cps.toList.drop (HT.sIx z.length 0 lo)).take (HT.sIx z.length z.length hi - HT.sIx z.length 0 lo)).toArray.toList := hc
  exact List.mem_of_mem_drop (List.mem_of_mem_take hc2)
theorem num_asc (D : PyData) : Asc (numT D) := by
  have hi : ∀ i : Int, Asc (Str.ofString (toString i)) := by
    intro i c hc
    rw [signs_ofString] at hc
    obtain ⟨ch, h1, rfl⟩ := List.mem_map.mp hc
    rcases int_sign i ch h1 with h | rfl
    · have := digit_range h
      omega
    · decide
  have hx : ∀ c ∈ ("" : Str).cps.toList, c < 128 := by decide +kernel
  cases D with
  | int i => exact hi i
  | bool k => cases k <;> (show ∀ c ∈ _, _) <;> decide +kernel
  | none => exact hx
  | str _ => exact hx
  | list _ => exact hx
  | tuple _ => exact hx
  | dict _ => exact hx
/-! ### readings -/
/-- x is small data, no object of the deck -/
def Itm (K : PySem.W.Frag) (d l : Addr) (n b m t : Nat) (H : Hp) (x : V) : Prop := ∃ D, Dy K d l H x D ∧ Sx n b m t D
theorem Itm.same {K : PySem.W.Frag} {d l : Addr} {n b m t : Nat} {H H2 : Hp} {x : V} (s : Same H H2) (h : Itm K d l n b m t H x) : Itm K d l n b m t H2 x := by
  obtain ⟨D, h1, h2⟩ := h
  exact ⟨D, dy_same s h1, h2⟩
theorem Itm.kept {K : PySem.W.Frag} {d l : Addr} {c n b m t : Nat} {H H2 : Hp} {x : V} (Dk : Dek H d l c) (k : Kept d l H H2) (h : Itm K d l n b m t H x) : Itm K d l n b m t H2 x := by
  obtain ⟨D, h1, h2⟩ := h
  exact ⟨D, dy_kept Dk k h1, h2⟩
theorem Itm.mono {K : PySem.W.Frag} {d l : Addr} {n b m t n2 b2 m2 t2 : Nat} {H : Hp} {x : V} (h : Itm K d l n b m t H x) (h1 : n ≤ n2) (h2 : b ≤ b2) (h3 : m ≤ m2) (h4 : t ≤ t2) : Itm K d l n2 b2 m2 t2 H x := by
  obtain ⟨D, e1, e2⟩ := h
  exact ⟨D, e1, e2.mono h1 h2 h3 h4⟩
section
variable {K : PySem.W.Frag} {d l : Addr} {c n b m t : Nat} {σ : L2.St} {H0 : Hp}
/-- te gives the data D -/
def WdE (K : PySem.W.Frag) (d l : Addr) (c : Nat) (σ : L2.St) (H0 : Hp) (te : TE) (D : PyData) : Prop := ∀ (H : Hp) (Q : VK), Same H0 H → Dek H d l c → (∀ x H2, Same H H2 → Dek H2 d l c → Dy K d l H2 x D → Q x H2) → te σ H Q
def WdA (K : PySem.W.Frag) (d l : Addr) (c : Nat) (σ : L2.St) (H0 : Hp) (ta : TA) (ds : List PyData) : Prop := ∀ (H : Hp) (Q : List V → Hp → Prop), Same H0 H → Dek H d l c → (∀ xs H2, Same H H2 → Dek H2 d l c → DyAll K d l H2 xs ds → Q xs H2) → ta σ H Q
/-- te gives small data -/
def WxE (K : PySem.W.Frag) (d l : Addr) (c n b m t : Nat) (σ : L2.St) (H0 : Hp) (te : TE) : Prop := ∀ (H : Hp) (Q : VK), Same H0 H → Dek H d l c → (∀ x H2, Same H H2 → Dek H2 d l c → Itm K d l n b m t H2 x → Q x H2) → te σ H Q
def WxA (K : PySem.W.Frag) (d l : Addr) (c n b m t : Nat) (σ : L2.St) (H0 : Hp) (ta : TA) (N : Nat) : Prop := ∀ (H : Hp) (Q : List V → Hp → Prop), Same H0 H → Dek H d l c → (∀ xs H2, Same H H2 → Dek H2 d l c → (∀ x ∈ xs, Itm K d l n b m t H2 x) → xs.length = N → Q xs H2) → ta σ H Q
theorem WdE.to {te : TE} {D : PyData} (a : WdE K d l c σ H0 te D) (s : Sx n b m t D) : WxE K d l c n b m t σ H0 te := fun H Q s0 dk q => a H Q s0 dk fun x H2 s2 dk2 h => q x H2 s2 dk2 ⟨D, h, s⟩
theorem WdE.v {i : Nat} {x : V} {D : PyData} (e : σ[i]? = some (some x)) (h : Dy K d l H0 x D) : WdE K d l c σ H0 (tVar i) D := fun H Q s dk q => ⟨x, e, q x H (Same.refl _) dk (dy_same s h)⟩
theorem WdE.con {v : V} {D : PyData} (h : ∀ H, Dy K d l H v D) : WdE K d l c σ H0 (tC v) D := fun H Q _ dk q => q v H (Same.refl _) dk (h H)
theorem WdE.non : WdE K d l c σ H0 (tC .non) .none := .con fun _ => .non
theorem WdE.bl {k : Bool} : WdE K d l c σ H0 (tC (.bl k)) (.bool k) := .con fun _ => .bl k
theorem WdE.int {i : Int} : WdE K d l c σ H0 (tC (.int i)) (.int i) := .con fun _ => .int i
theorem WdE.str {z : Str} : WdE K d l c σ H0 (tC (.str z)) (.str z) := .con fun _ => .str z
theorem WdE.neg {i : Int} : WdE K d l c σ H0 (tUn (rU fun j => V.int (-j)) (tC (.int i))) (.int (-i)) := fun H Q _ dk q => ⟨i, rfl, q _ H (Same.refl _) dk (.int _)⟩
theorem WdE.dct : WdE K d l c σ H0 tDNewK (.dict []) := fun H Q _ dk q p np => q (.ref p) _ (same_new np) (dk.upd np) (.dct upd_same (dk.ne np).1 (dk.ne np).2)
theorem WdA.nil : WdA K d l c σ H0 tNil [] := fun H Q _ dk q => q [] H (Same.refl _) dk .nil
theorem WdA.cons {te : TE} {ta : TA} {D : PyData} {ds : List PyData} (a : WdE K d l c σ H0 te D) (k : WdA K d l c σ H0 ta ds) : WdA K d l c σ H0 (tCons te ta) (D :: ds) := fun H Q s dk q =>
  a H _ s dk fun x H1 s1 dk1 h1 => k H1 _ (s.trans s1) dk1 fun xs H2 s2 dk2 h2 => q (x :: xs) H2 (s1.trans s2) dk2 (.cons (dy_same s2 h1) h2)
theorem WdE.tup {ta : TA} {ds : List PyData} (a : WdA K d l c σ H0 ta ds) (hl : ds.length ≤ 1000) : WdE K d l c σ H0 (tTup ta) (.tuple ds) := fun H Q s dk q =>
  a H _ s dk fun xs H1 s1 dk1 h1 => ⟨Nat.le_of_lt (small1000 (by rw [dyA_len h1]; exact hl)), fun p np => q (.ref p) _ (s1.trans (same_new np)) (dk1.upd np) (.tup (.inl (.inl upd_same)) (dyA_same (same_new np) h1))⟩
theorem WdE.lst {ta : TA} {ds : List PyData} (a : WdA K d l c σ H0 ta ds) (hl : ds.length ≤ 1000) : WdE K d l c σ H0 (tLst ta) (.list ds) := fun H Q s dk q =>
  a H _ s dk fun xs H1 s1 dk1 h1 => ⟨Nat.le_of_lt (small1000 (by rw [dyA_len h1]; exact hl)), fun p np => q (.ref p) _ (s1.trans (same_new np)) (dk1.upd np) (.lst upd_same (dk1.ne np).1 (dk1.ne np).2 (dyA_same (same_new np) h1))⟩
theorem WdE.listOf {te : TE} {ds : List PyData} (a : WdE K d l c σ H0 te (.tuple ds)) : WdE K d l c σ H0 (tCB (rListOf K) (tCons te tNil)) (.list ds) := fun H Q s dk q =>
  a H _ s dk fun x H1 s1 dk1 h1 => by
    obtain ⟨p, xs, rfl, hp, ha⟩ := dy_tuple h1
    exact ⟨p, xs, rfl, .inr hp, fun r nr => q (.ref r) _ (s1.trans (same_new nr)) (dk1.upd nr) (.lst upd_same (dk1.ne nr).1 (dk1.ne nr).2 (dyA_same (same_new nr) ha))⟩
theorem WdE.cat {t1 t2 : TE} {ds es : List PyData} (a : WdE K d l c σ H0 t1 (.tuple ds)) (k : WdE K d l c σ H0 t2 (.tuple es)) (hl : ds.length + es.length ≤ 1000) : WdE K d l c σ H0 (tOp (rCatU K) t1 t2) (.tuple (ds ++ es)) := fun H Q s dk q =>
  a H _ s dk fun x H1 s1 dk1 h1 => k H1 _ (s.trans s1) dk1 fun y H2 s2 dk2 h2 => by
    obtain ⟨p, xs, rfl, hp, ha⟩ := dy_tuple (dy_same s2 h1)
    obtain ⟨r, ys, rfl, hr, hb⟩ := dy_tuple h2
    have e1 := dyA_len ha
    have e2 := dyA_len hb
    exact ⟨p, r, xs, ys, rfl, rfl, hp, hr, Nat.le_of_lt (small1000 (by omega)), fun z H3 s3 h3 => q (.ref z) H3 ((s1.trans s2).trans s3) (dk2.same s3) (.tup h3 (dyA_same s3 (dyA_app ha hb)))⟩
/-- what a part of a list is -/
def cutD (ds : List PyData) (lo hi : Option Int) : List PyData := (ds.drop (HT.sIx ds.length 0 lo)).take (HT.sIx ds.length ds.length hi - HT.sIx ds.length 0 lo)
def Pt (σ : L2.St) (tp : TO) (o : Option Int) : Prop := ∀ (H : Hp) (Q : Option Int → Hp → Prop), Q o H → tp σ H Q
theorem Pt.no : Pt σ tNoPart none := fun _ _ q => q
theorem Pt.int {i : Int} : Pt σ (tPart (tC (.int i))) (some i) := fun _ _ q => ⟨i, rfl, q⟩
theorem Pt.neg {i : Int} : Pt σ (tPart (tUn (rU fun j => V.int (-j)) (tC (.int i)))) (some (-i)) := fun _ _ q => ⟨i, rfl, -i, rfl, q⟩
theorem Pt.var {i : Nat} {j : Int} (e : σ[i]? = some (some (.int j))) : Pt σ (tPart (tVar i)) (some j) := fun _ _ q => ⟨_, e, j, rfl, q⟩
theorem Pt.var1 {i : Nat} {j : Int} (e : σ[i]? = some (some (.int j))) : Pt σ (tPart (tOp (rI0 fun i j => V.int (i + j)) (tVar i) (tC (.int 1)))) (some (j + 1)) := fun _ _ q => ⟨_, e, _, _, rfl, rfl, j + 1, rfl, q⟩
theorem WdE.slc {te : TE} {lo hi : TO} {o1 o2 : Option Int} {ds : List PyData} (a : WdE K d l c σ H0 te (.tuple ds)) (h1 : Pt σ lo o1) (h2 : Pt σ hi o2) : WdE K d l c σ H0 (tSl (rSlU K) te lo hi) (.tuple (cutD ds o1 o2)) := fun H Q s dk q =>
  a H _ s dk fun x H1 s1 dk1 hx => h1 _ _ (h2 _ _ (by
    obtain ⟨p, xs, rfl, hp, ha⟩ := dy_tuple hx
    refine ⟨p, xs, rfl, hp, fun z H3 s3 h3 => q (.ref z) H3 (s1.trans s3) (dk1.same s3) (.tup h3 (dyA_same s3 ?_))⟩
    have e := dyA_len ha
    unfold cutV cutD
    rw [← e]
    exact dyA_take _ (dyA_drop _ ha)))
theorem WdE.rev {te : TE} {ds : List PyData} (a : WdE K d l c σ H0 te (.tuple ds)) : WdE K d l c σ H0 (tRevX K te) (.tuple ds.reverse) := fun H Q s dk q =>
  a H _ s dk fun x H1 s1 dk1 hx => by
    obtain ⟨p, xs, rfl, hp, ha⟩ := dy_tuple hx
    exact .inl ⟨p, xs, rfl, hp, fun r nr => q (.ref r) _ (s1.trans (same_new nr)) (dk1.upd nr) (.tup (.inl (.inl upd_same)) (dyA_same (same_new nr) (dyA_rev ha)))⟩
theorem WxA.nil : WxA K d l c n b m t σ H0 tNil 0 := fun H Q _ dk q => q [] H (Same.refl _) dk (fun _ h => (nomatch h)) rfl
theorem WxA.cons {te : TE} {ta : TA} {N : Nat} (a : WxE K d l c n b m t σ H0 te) (k : WxA K d l c n b m t σ H0 ta N) : WxA K d l c n b m t σ H0 (tCons te ta) (N + 1) := fun H Q s dk q =>
  a H _ s dk fun x H1 s1 dk1 h1 => k H1 _ (s.trans s1) dk1 fun xs H2 s2 dk2 h2 hl => q (x :: xs) H2 (s1.trans s2) dk2 (fun y hy => by
    rcases List.mem_cons.mp hy with rfl | hy
    · exact h1.same s2
    · exact h2 y hy) (by rw [List.length_cons, hl])
theorem SxA.cutD {ds : List PyData} (h : SxA n b m t ds) (lo hi : Option Int) : SxA n b m t (SG.cutD ds lo hi) := (h.drop _).take _
end
end SG

/-! More rules with the written part as a letter; three keywords, turned round. -/
namespace SG
open PySem PySem.Spec PyProof.Rows L2
section
variable {X : Cx} {K : PySem.W.Frag} {w : World}
def rInS (K : PySem.W.Frag) : R2 := fun x y H Q => ∃ p xs, y = .ref p ∧ (SqL K H p xs ∨ SqT K H p xs) ∧ flatV x = true ∧ xs.all flatV = true ∧ Q (.bl (inV x xs)) H
def rNotS (K : PySem.W.Frag) : R2 := fun x y H Q => ∃ p xs, y = .ref p ∧ (SqL K H p xs ∨ SqT K H p xs) ∧ flatV x = true ∧ xs.all flatV = true ∧ Q (.bl (!inV x xs)) H
theorem k_in (e : X.K = K := by rfl) : OpR X (compareOp .In) (rInS K) := by
  subst e
  exact op_in_seq
theorem k_notin (e : X.K = K := by rfl) : OpR X (compareOp .NotIn) (rNotS K) := by
  subst e
  exact op_notIn_seq
def rMaxK (K : PySem.W.Frag) : List V → Hp → VK → Prop := fun vs H Q => ∃ (a : Addr) (ns : List Int), vs = [V.ref a] ∧ SqL K H a (ns.map V.int) ∧ 0 < ns.length ∧ ∀ m, m ∈ ns → (∀ y, y ∈ ns → y ≤ m) → Q (.int m) H
def rMinK1 (K : PySem.W.Frag) : List V → Hp → VK → Prop := fun vs H Q => ∃ (a : Addr) (ns : List Int), vs = [V.ref a] ∧ SqL K H a (ns.map V.int) ∧ 0 < ns.length ∧ ∀ m, m ∈ ns → (∀ y, y ∈ ns → m ≤ y) → Q (.int m) H
theorem k_max (hc : X.calm = true) (e : X.K = K := by rfl) : CallR X (.builtin "max") (rMaxK K) := by
  subst e
  exact cr_max hc
theorem k_min (hc : X.calm = true) (e : X.K = K := by rfl) : CallR X (.builtin "min") (rMinK1 K) := by
  subst e
  exact cr_min hc
theorem k_sortI (e : X.K = K := by rfl) : CallR X (.builtin "sorted") (rSortedI K) := e ▸ cr_sortedI
theorem k_sortPO (e : X.K = K := by rfl) : CallR X (.builtin "sorted") (rSortedPO K) := e ▸ cr_sortedPO
theorem k_sortSet (hc : X.calm = true) (e : X.w = w := by rfl) : CallR X (.builtin "sorted") (rSortedSet w) := e ▸ cr_sortedSet hc
def rDictP (K : PySem.W.Frag) : List V → Hp → VK → Prop := fun xs H Q => ∃ (a : Addr) (ps : List Addr) (kvs : List (Key × V)), xs = [.ref a] ∧ SqL K H a (ps.map V.ref) ∧ Paired (fun p kv => SqT K H p [kV kv.1, kv.2]) ps kvs ∧ ∀ p, H p = none → Q (.ref p) (upd H p (.dK (mergeK [] kvs)))
theorem k_dictP (hc : X.calm = true) (e : X.K = K := by rfl) : CallR X (.type "dict") (rDictP K) := by
  subst e
  exact call_dictP hc
end
section
variable {X : Cx} {K : PySem.W.Frag}
theorem k_zipA {e e2 : Expr} {ta : TA} {p pos tpos : Pos} {elts : List Expr} {kk : Nat} (hg : Gl X "zip") (hm : X.mg "zip" = none) (ha : PA X [e, e2] ta)
    (hs : starEach [e, e2] X.env = (false, eval e X.env) :: starEach [e2] X.env := by rfl) (hpl : (backTo pos (starEach [e2] X.env)).any (·.1) = false := by rfl) (eK : X.K = K := by rfl) :
    PI X (.Tuple elts kk tpos) (.Call (.Name "zip" p) [e, e2] [] pos) (RZ.iZipA K ta) := eK ▸ RZ.pi_zipA hg hm ha hs hpl
end
theorem walk_zipT {K : PySem.W.Frag} {a b : Addr} {xs ys : List V} {n : Nat} (hn : n = min xs.length ys.length) : Walk (RZ.ItzT K a b) n (fun H => SqT K H a xs ∧ SqT K H b ys) (YPair (fun i => xs[i]?) (fun i => ys[i]?)) := by
  subst hn
  refine ⟨fun i _ hi q => ?_, fun _ q => ⟨xs, ys, q.1, q.2, by omega⟩, fun i H v H' _ q y => ?_⟩
  · have l1 : i < xs.length := by omega
    have l2 : i < ys.length := by omega
    exact ⟨xs, ys, xs[i], ys[i], q.1, q.2, by simp [l1], by simp [l2]⟩
  · obtain ⟨T, x, z, g1, g2, g3, g4, g5⟩ := y
    exact ⟨T, x, z, g1, g2, g3, g4 xs q.1, g5 ys q.2⟩
/-- three keywords, the last one first -/
def kwThree {α : Type} : List α → List α → List α
  | [], [c, b, a] => [a, b, c]
  | _, _ => []
theorem kwThree_rel {vs : List V} {us : List Value} {zs : List V} {ws : List Value} (a : Vals vs us) (b : Vals zs ws) : Vals (kwThree vs zs) (kwThree us ws) := by
  cases a with
  | cons _ _ => exact .nil
  | nil =>
    cases b with
    | nil => exact .nil
    | cons r t =>
      cases t with
      | nil => exact .nil
      | cons r2 t2 =>
        cases t2 with
        | nil => exact .nil
        | cons r3 t3 =>
          cases t3 with
          | nil => exact .cons r3 (.cons r2 (.cons r .nil))
          | cons _ _ => exact .nil
theorem kwThree_args {α : Type} {us ws : List α} (h : (kwThree us ws).length = 3) : ∃ x y z, us = [] ∧ ws = [x, y, z] := by
  match us, ws, h with
  | [], [x, y, z], _ => exact ⟨x, y, z, rfl, rfl⟩
  | [], [], h => exact absurd h (by simp [kwThree])
  | [], [_], h => exact absurd h (by simp [kwThree])
  | [], [_, _], h => exact absurd h (by simp [kwThree])
  | [], _ :: _ :: _ :: _ :: _, h => exact absurd h (by simp [kwThree])
  | _ :: _, _, h => exact absurd h (by simp [kwThree])
end SG

/-! Lemmas of the way to k54 that speak of no law. -/
namespace SG
open PySem PySem.Spec PyProof.Rows L2
section
variable {K : PySem.W.Frag}
theorem inV_int (k : Int) (ns : List Int) : inV (.int k) (ns.map V.int) = decide (k ∈ ns) := by
  unfold inV
  rw [List.any_map, Bool.eq_iff_iff, List.any_eq_true, decide_eq_true_eq]
  constructor
  · rintro ⟨x, hx, h⟩
    have h : (x == k) = true := h
    rw [← eq_of_beq h]
    exact hx
  · intro h
    exact ⟨k, h, (beq_self_eq_true k : (k == k) = true)⟩
theorem flat_ints (ns : List Int) : (ns.map V.int).all flatV = true := by
  rw [List.all_map, List.all_eq_true]
  exact fun _ _ => rfl
theorem get_int {ns : List Int} {i : Nat} {x : V} (h : (ns.map V.int)[i]? = some x) : ∃ k, x = .int k ∧ ns[i]? = some k := by
  rw [List.getElem?_map] at h
  obtain ⟨k, h1, h2⟩ := Option.map_eq_some_iff.mp h
  exact ⟨k, h2.symm, h1⟩
theorem int_nat {k : Int} (h : 0 ≤ k) : k = ((k.toNat : Nat) : Int) := by omega
/-- a row of answers, one for each of a row of whole numbers -/
theorem lc_bools {J : It} {G : Hp → Prop} {ns : List Int} {te : TE} {s : Nat} {σ : L2.St} {H1 : Hp} {D : Addr} {Qd : Hp → Prop} (w : Walk J (ns.map V.int).length G (YAt (ns.map V.int))) (hn : ns.length ≤ 1000) (hD : H1 D = none) (g : Int → Bool) (hG : ∀ H, Same H1 H → G H)
    (turn : ∀ (k : Int) (H2 : Hp), k ∈ ns → Same H1 H2 → ∀ R : VK, (∀ H3, Same H2 H3 → R (.bl (g k)) H3) → te ((wipe σ [s]).set s (some (.int k))) H2 R)
    (done : ∀ H2, Same H1 H2 → H2 D = some (.lst ((ns.map g).map V.bl)) → Qd H2) :
    ∃ W : Nat → Nat → Hp → Prop, (∃ m, W 0 m (upd H1 D (.lst []))) ∧ ∀ i m H, W i m H →
      (J.stop i H ∧ Qd H) ∨ (J.go i H ∧ ∃ Nx : Hp → Prop, (∀ H', Nx H' → ∃ m', m' < m ∧ W (i + 1) m' H') ∧ ∀ x H', J.yld i H x H' → gName s x (wipe σ [s]) H' fun σ2 H2 => wipe σ2 [s] = wipe σ [s] ∧ tYes σ2 H2 fun b H3 =>
        if b = true then te σ2 H3 fun y H4 => ∃ acc, H4 D = some (.lst acc) ∧ acc.length < sizeLine ∧ Nx (upd H4 D (.lst (acc ++ [y]))) else Nx H3) := by
  refine lc_same w (by rw [List.length_map]; exact hn) hD (fun i acc _ => acc = ((ns.map g).take i).map V.bl) rfl (fun _ _ _ _ _ h => h) hG ?_ ?_
  · rintro i x acc H5 H6 hi s5 rfl ⟨rfl, hx⟩ R N hR hN
    obtain ⟨k, rfl, hk⟩ := get_int hx
    refine ⟨wipe1 _ _ _, ?_⟩
    refine yesI (A := fun H7 => _) ?_
    refine turn k _ (List.mem_of_getElem? hk) s5 _ fun H3 s3 => hR _ _ s3 ?_
    rw [List.take_add_one, List.getElem?_map, hk]
    simp
  · rintro acc H5 s5 hl hD1 rfl
    rw [List.length_map, List.take_of_length_le (by rw [List.length_map]; exact Nat.le_refl _)] at hD1
    exact done H5 s5 hD1
theorem lc_nums {J : It} {G : Hp → Prop} {ns : List Int} {te : TE} {s : Nat} {σ : L2.St} {H1 : Hp} {D : Addr} {Qd : Hp → Prop} (w : Walk J (ns.map V.int).length G (YAt (ns.map V.int))) (hn : ns.length ≤ 1000) (hD : H1 D = none) (g : Int → Int) (hG : ∀ H, Same H1 H → G H)
    (turn : ∀ (k : Int) (H2 : Hp), k ∈ ns → Same H1 H2 → ∀ R : VK, (∀ H3, Same H2 H3 → R (.int (g k)) H3) → te ((wipe σ [s]).set s (some (.int k))) H2 R)
    (done : ∀ H2, Same H1 H2 → H2 D = some (.lst ((ns.map g).map V.int)) → Qd H2) :
    ∃ W : Nat → Nat → Hp → Prop, (∃ m, W 0 m (upd H1 D (.lst []))) ∧ ∀ i m H, W i m H →
      (J.stop i H ∧ Qd H) ∨ (J.go i H ∧ ∃ Nx : Hp → Prop, (∀ H', Nx H' → ∃ m', m' < m ∧ W (i + 1) m' H') ∧ ∀ x H', J.yld i H x H' → gName s x (wipe σ [s]) H' fun σ2 H2 => wipe σ2 [s] = wipe σ [s] ∧ tYes σ2 H2 fun b H3 =>
        if b = true then te σ2 H3 fun y H4 => ∃ acc, H4 D = some (.lst acc) ∧ acc.length < sizeLine ∧ Nx (upd H4 D (.lst (acc ++ [y]))) else Nx H3) := by
  refine lc_same w (by rw [List.length_map]; exact hn) hD (fun i acc _ => acc = ((ns.map g).take i).map V.int) rfl (fun _ _ _ _ _ h => h) hG ?_ ?_
  · rintro i x acc H5 H6 hi s5 rfl ⟨rfl, hx⟩ R N hR hN
    obtain ⟨k, rfl, hk⟩ := get_int hx
    refine ⟨wipe1 _ _ _, ?_⟩
    refine yesI (A := fun H7 => _) ?_
    refine turn k _ (List.mem_of_getElem? hk) s5 _ fun H3 s3 => hR _ _ s3 ?_
    rw [List.take_add_one, List.getElem?_map, hk]
    simp
  · rintro acc H5 s5 hl hD1 rfl
    rw [List.length_map, List.take_of_length_le (by rw [List.length_map]; exact Nat.le_refl _)] at hD1
    exact done H5 s5 hD1
/-- those of a row of whole numbers that pass -/
theorem lc_pass {J : It} {G : Hp → Prop} {ns : List Int} {tt : TT} {s : Nat} {σ : L2.St} {H1 : Hp} {D : Addr} {Qd : Hp → Prop} (w : Walk J (ns.map V.int).length G (YAt (ns.map V.int))) (hn : ns.length ≤ 1000) (hs : s < σ.length) (hD : H1 D = none) (g : Int → Bool) (hG : ∀ H, Same H1 H → G H)
    (turn : ∀ (k : Int) (H2 : Hp), k ∈ ns → Same H1 H2 → ∀ R : Bool → Hp → Prop, (∀ H3, Same H2 H3 → R (g k) H3) → tt ((wipe σ [s]).set s (some (.int k))) H2 R)
    (done : ∀ H2, Same H1 H2 → H2 D = some (.lst ((ns.filter g).map V.int)) → Qd H2) :
    ∃ W : Nat → Nat → Hp → Prop, (∃ m, W 0 m (upd H1 D (.lst []))) ∧ ∀ i m H, W i m H →
      (J.stop i H ∧ Qd H) ∨ (J.go i H ∧ ∃ Nx : Hp → Prop, (∀ H', Nx H' → ∃ m', m' < m ∧ W (i + 1) m' H') ∧ ∀ x H', J.yld i H x H' → gName s x (wipe σ [s]) H' fun σ2 H2 => wipe σ2 [s] = wipe σ [s] ∧ tt σ2 H2 fun b H3 =>
        if b = true then tVar s σ2 H3 fun y H4 => ∃ acc, H4 D = some (.lst acc) ∧ acc.length < sizeLine ∧ Nx (upd H4 D (.lst (acc ++ [y]))) else Nx H3) := by
  refine lc_same w (by rw [List.length_map]; exact hn) hD (fun i acc _ => acc = ((ns.take i).filter g).map V.int) rfl (fun _ _ _ _ _ h => h) hG ?_ ?_
  · rintro i x acc H5 H6 hi s5 rfl ⟨rfl, hx⟩ R N hR hN
    obtain ⟨k, rfl, hk⟩ := get_int hx
    refine ⟨wipe1 _ _ _, ?_⟩
    refine turn k _ (List.mem_of_getElem? hk) s5 _ fun H3 s3 => ?_
    have e : (ns.take (i + 1)).filter g = (ns.take i).filter g ++ (if g k = true then [k] else []) := by
      rw [List.take_add_one, hk, List.filter_append]
      congr 1
      by_cases e : g k = true <;> simp [e]
    by_cases e2 : g k = true
    · rw [e2]
      refine ifT rfl ⟨.int k, ?_, hR _ _ s3 ?_⟩
      · rw [List.getElem?_set_self (by rw [wipe_length]; exact hs)]
      · rw [e, if_pos e2, List.map_append]
        rfl
    · have e3 : g k = false := by simpa using e2
      rw [e3]
      refine ifF rfl (hN _ s3 ?_)
      rw [e, if_neg e2, List.append_nil]
  · rintro acc H5 s5 hl hD1 rfl
    rw [List.length_map, List.take_of_length_le (Nat.le_refl _)] at hD1
    exact done H5 s5 hD1
theorem atI_last {xs : List V} {x : V} : atI (xs ++ [x]) (-1) = some x := by
  unfold atI ixN
  rw [if_neg (by decide), List.length_append, List.length_singleton, if_pos (by omega)]
  have e : ((-1 : Int) + ((xs.length + 1 : Nat) : Int)).toNat = xs.length := by omega
  rw [e]
  show (xs ++ [x])[xs.length]? = some x
  rw [List.getElem?_append_right (Nat.le_refl _)]
  simp
theorem tups_upd {p : Addr} {H : Hp} {xs : List V} {o : HO} (h : H p = some (.lst xs)) : Tups H (upd H p o) := fun b u e nl => by
  have hb : b ≠ p := fun z => nl xs (Option.some.inj (e.symm.trans (by rw [z]; exact h)))
  rw [upd_ne hb]
  exact e
theorem sqT_tups {H H2 : Hp} (k : Tups H H2) {a : Addr} {zs : List V} (h : SqT K H a zs) : SqT K H2 a zs := by
  rcases h with (h | ⟨o, h⟩) | h
  · exact .inl (.inl (k _ _ h nofun))
  · exact .inl (.inr ⟨o, k _ _ h nofun⟩)
  · exact .inr h
theorem kept_upd {d l p : Addr} {H H2 : Hp} {o : HO} (k : Kept d l H H2) (n : H p = none) : Kept d l H (upd H2 p o) := fun b u e h1 h2 => by
  rw [upd_ne (ne_of_none e n)]
  exact k b u e h1 h2
theorem Dek.updN {d l p : Addr} {c : Nat} {H : Hp} {o : HO} (D : Dek H d l c) (h1 : p ≠ d) (h2 : p ≠ l) : Dek (L2.upd H p o) d l c := by
  obtain ⟨cs, m, n, e1, e2, e3⟩ := D
  exact ⟨cs, m, n, by rw [upd_ne (Ne.symm h1)]; exact e1, by rw [upd_ne (Ne.symm h2)]; exact e2, e3⟩
def rgI (n : Nat) : List Int := (List.range n).map fun (k : Nat) => (k : Int)
theorem rg_len (n : Nat) : (rgI n).length = n := by unfold rgI; simp
theorem rgV_eq (n : Nat) : rgV 0 (n : Int) = (rgI n).map V.int := by
  unfold rgV rgI
  rw [List.map_map]
  have e : ((n : Int) - 0).toNat = n := by omega
  rw [e]
  apply List.map_congr_left
  intro k _
  show V.int (0 + (k : Int)) = V.int (k : Int)
  rw [Int.zero_add]
theorem walk_enumT {a : Addr} {xs : List V} : Walk (IteT K a) xs.length (fun H => SqT K H a xs) (YPair (fun i => some (.int (i : Nat))) (fun i => xs[i]?)) := by
  refine ⟨fun i _ hi q => ⟨xs, xs[i], q, by simp [hi]⟩, fun _ q => ⟨xs, q, Nat.le_refl _⟩, fun i H v H' _ q y => ?_⟩
  obtain ⟨T, x, h1, h2, h3, h4⟩ := y
  exact ⟨T, .int (i : Nat), x, h1, h2, h3, rfl, h4 xs q⟩
/-- those of some data that a test doesn't take: none, if it takes all -/
theorem lc_none {J : It} {G : Hp → Prop} {xs : List V} {ds : List PyData} {tt : TT} {s : Nat} {σ : L2.St} {H1 : Hp} {D : Addr} {Qd : Hp → Prop} (w : Walk J xs.length G (YAt xs)) (ha : DxAll K H1 xs ds) (hn : xs.length ≤ 1000) (hs : s < σ.length) (hD : H1 D = none) (g : PyData → Bool) (hG : ∀ H, Same H1 H → G H)
    (turn : ∀ (x : V) (E : PyData) (H2 : Hp), E ∈ ds → Same H1 H2 → Dx K H2 x E → ∀ R : Bool → Hp → Prop, (∀ H3, Same H2 H3 → R (!g E) H3) → tt ((wipe σ [s]).set s (some x)) H2 R)
    (done : ∀ (acc : List V) (H2 : Hp), Same H1 H2 → H2 D = some (.lst acc) → acc.isEmpty = ds.all g → Qd H2) :
    ∃ W : Nat → Nat → Hp → Prop, (∃ m, W 0 m (upd H1 D (.lst []))) ∧ ∀ i m H, W i m H →
      (J.stop i H ∧ Qd H) ∨ (J.go i H ∧ ∃ Nx : Hp → Prop, (∀ H', Nx H' → ∃ m', m' < m ∧ W (i + 1) m' H') ∧ ∀ x H', J.yld i H x H' → gName s x (wipe σ [s]) H' fun σ2 H2 => wipe σ2 [s] = wipe σ [s] ∧ tt σ2 H2 fun b H3 =>
        if b = true then tVar s σ2 H3 fun y H4 => ∃ acc, H4 D = some (.lst acc) ∧ acc.length < sizeLine ∧ Nx (upd H4 D (.lst (acc ++ [y]))) else Nx H3) := by
  have lx := dxA_len ha
  refine lc_same w hn hD (fun i acc _ => acc.isEmpty = (ds.take i).all g) rfl (fun _ _ _ _ _ h => h) hG ?_ ?_
  · rintro i x acc H5 H6 hi s5 ea ⟨rfl, hx⟩ R N hR hN
    obtain ⟨E, h1, h2⟩ := dxA_get (dxA_same s5 ha) hx
    refine ⟨wipe1 _ _ _, ?_⟩
    refine turn x E _ (List.mem_of_getElem? h1) s5 h2 _ fun H3 s3 => ?_
    have e : (ds.take (i + 1)).all g = ((ds.take i).all g && g E) := by
      rw [List.take_add_one, h1, List.all_append]
      simp
    by_cases e2 : g E = true
    · rw [e2]
      refine ifF (by rfl) (hN _ s3 ?_)
      rw [e, e2, Bool.and_true]
      exact ea
    · have e3 : g E = false := by simpa using e2
      rw [e3]
      refine ifT rfl ⟨x, ?_, hR _ _ s3 ?_⟩
      · rw [List.getElem?_set_self (by rw [wipe_length]; exact hs)]
      · rw [e, e3, Bool.and_false]
        cases acc <;> rfl
  · rintro acc H5 s5 hl hD1 ea
    rw [lx, List.take_of_length_le (Nat.le_refl _)] at ea
    exact done acc H5 s5 hD1 ea
theorem eqv_ints : ∀ a b : List Int, PyData.eqv (.list (dI a)) (.list (dI b)) = decide (a = b)
  | [], [] => by simp [dI, PyData.eqv, PyData.eqvAll]
  | [], b :: r => by simp [dI, PyData.eqv, PyData.eqvAll]
  | a :: r, [] => by simp [dI, PyData.eqv, PyData.eqvAll]
  | a :: r, b :: t => by
    have ih := eqv_ints r t
    simp only [PyData.eqv] at ih
    show PyData.eqvAll (PyData.int a :: dI r) (PyData.int b :: dI t) = _
    simp only [PyData.eqvAll, PyData.eqv, ih]
    rw [Bool.eq_iff_iff]
    simp
/-- all but one object stays -/
def But (d : Addr) (H H2 : Hp) : Prop := ∀ b o, H b = some o → b ≠ d → H2 b = some o
theorem But.upd {d : Addr} {H H2 : Hp} {o : HO} (k : But d H H2) : But d H (upd H2 d o) := fun b x h hb => by
  rw [upd_ne hb]
  exact k _ _ h hb
theorem sqT_but {d : Addr} {H H2 : Hp} {kvs : List (Key × V)} (k : But d H H2) (hd : H d = some (.dK kvs)) {a : Addr} {zs : List V} (h : SqT K H a zs) : SqT K H2 a zs := by
  rcases h with (h | ⟨o, h⟩) | h
  · exact .inl (.inl (k _ _ h (ne_of h hd nofun)))
  · exact .inl (.inr ⟨o, k _ _ h (ne_of h hd nofun)⟩)
  · exact .inr h
theorem dx_kind_int {H : Hp} {x : V} {E : PyData} (h : Dx K H x E) (h1 : isIntLike E = true) (h2 : isBool E = false) : ∃ i, E = .int i ∧ x = .int i := by
  cases h with
  | int i => exact ⟨i, rfl, rfl⟩
  | bl b => cases h2
  | _ => cases h1
/-- a comprehension over range(n) whose turns draw so much each -/
theorem lc_drawsN {d l D : Addr} {c n m s : Nat} {te : TE} {σ : L2.St} {H1 : Hp} {Qd : Hp → Prop} {B : Hp → V → Prop} (BT : ∀ H H' x, Tups H H' → B H x → B H' x) (BK : ∀ H H' c x, Dek H d l c → Kept d l H H' → B H x → B H' x) (D0 : Dek H1 d l c) (hD : H1 D = none) (hn : n ≤ 1000)
    (turn : ∀ (i : Nat) (H2 : Hp), i < n → Dek H2 d l (c + m * i) → Kept d l H1 H2 → ∀ R : VK, (∀ (x : V) (H3 : Hp), B H3 x → Dek H3 d l (c + m * i + m) → Kept d l H2 H3 → R x H3) → te ((wipe σ [s]).set s (some (.int (0 + i)))) H2 R)
    (done : ∀ (xs : List V) (H2 : Hp), xs.length = n → (∀ x ∈ xs, B H2 x) → H2 D = some (.lst xs) → Dek H2 d l (c + m * n) → Kept d l H1 H2 → Qd H2) :
    ∃ W : Nat → Nat → Hp → Prop, (∃ m, W 0 m (upd H1 D (.lst []))) ∧ ∀ i m H, W i m H →
      ((Itr 0 n).stop i H ∧ Qd H) ∨ ((Itr 0 n).go i H ∧ ∃ Nx : Hp → Prop, (∀ H2, Nx H2 → ∃ m2, m2 < m ∧ W (i + 1) m2 H2) ∧ ∀ x H2, (Itr 0 n).yld i H x H2 → gName s x (wipe σ [s]) H2 fun σ2 H3 => wipe σ2 [s] = wipe σ [s] ∧ tYes σ2 H3 fun b H4 =>
        if b = true then te σ2 H4 fun y H5 => ∃ acc, H5 D = some (.lst acc) ∧ acc.length < sizeLine ∧ Nx (upd H5 D (.lst (acc ++ [y]))) else Nx H4) := by
  obtain ⟨nd, nl⟩ := D0.ne hD
  refine lc_range (fun i H2 => ∃ xs : List V, xs.length = i ∧ (∀ x ∈ xs, B H2 x) ∧ H2 D = some (.lst xs) ∧ Dek H2 d l (c + m * i) ∧ Kept d l H1 H2) ?_ ?_ ?_
  · exact ⟨[], rfl, (fun _ h => absurd h List.not_mem_nil), upd_same, D0.upd hD, .of (same_new hD)⟩
  · rintro i H2 hi ⟨xs, hx, hB, hD2, D2, k2⟩
    refine ⟨wipe1 _ _ _, ?_⟩
    refine yesI ?_
    refine turn i H2 hi D2 k2 _ fun x H3 hb D3 k3 => ⟨xs, k3 _ _ hD2 nd nl, ?_, xs ++ [x], by simp [hx], fun y hy => ?_, upd_same, ?_, ?_⟩
    · rw [hx]
      exact small1000 (by omega)
    · have tu := tups_upd (o := .lst (xs ++ [x])) (k3 _ _ hD2 nd nl)
      rcases List.mem_append.mp hy with h | h
      · exact BT _ _ _ tu (BK _ _ _ _ D2 k3 (hB y h))
      · rw [List.mem_singleton.mp h]; exact BT _ _ _ tu hb
    · have e : c + m * (i + 1) = c + m * i + m := by rw [Nat.mul_add, Nat.mul_one, Nat.add_assoc]
      rw [e]
      exact D3.updN nd nl
    · exact kept_upd (k2.trans k3) hD
  · rintro H2 ⟨xs, hx, hB, hD2, D2, k2⟩
    exact done xs H2 hx hB hD2 D2 k2
/-- those of a list that a test takes: none -/
theorem lc_empty {J : It} {G : Hp → Prop} {xs : List V} {tt : TT} {te : TE} {s : Nat} {σ : L2.St} {H1 : Hp} {D : Addr} {Qd : Hp → Prop} (w : Walk J xs.length G (YAt xs)) (hn : xs.length ≤ 1000) (hD : H1 D = none) (hG : ∀ H, Same H1 H → G H)
    (turn : ∀ (x : V) (H2 : Hp), x ∈ xs → Same H1 H2 → ∀ R : Bool → Hp → Prop, (∀ H3, Same H2 H3 → R false H3) → tt ((wipe σ [s]).set s (some x)) H2 R)
    (done : ∀ (H2 : Hp), Same H1 H2 → H2 D = some (.lst []) → Qd H2) :
    ∃ W : Nat → Nat → Hp → Prop, (∃ m, W 0 m (upd H1 D (.lst []))) ∧ ∀ i m H, W i m H →
      (J.stop i H ∧ Qd H) ∨ (J.go i H ∧ ∃ Nx : Hp → Prop, (∀ H', Nx H' → ∃ m', m' < m ∧ W (i + 1) m' H') ∧ ∀ x H', J.yld i H x H' → gName s x (wipe σ [s]) H' fun σ2 H2 => wipe σ2 [s] = wipe σ [s] ∧ tt σ2 H2 fun b H3 =>
        if b = true then te σ2 H3 fun y H4 => ∃ acc, H4 D = some (.lst acc) ∧ acc.length < sizeLine ∧ Nx (upd H4 D (.lst (acc ++ [y]))) else Nx H3) := by
  refine lc_same w hn hD (fun i acc _ => acc = []) rfl (fun _ _ _ _ _ h => h) hG ?_ ?_
  · rintro i x acc H5 H6 hi s5 rfl ⟨rfl, hx⟩ R N hR hN
    refine ⟨wipe1 _ _ _, ?_⟩
    refine turn x _ (List.mem_of_getElem? hx) s5 _ fun H3 s3 => ifF (by rfl) (hN _ s3 rfl)
  · rintro acc H5 s5 hl hD1 rfl
    exact done H5 s5 hD1
theorem cat_wx {d l : Addr} {c n b m t : Nat} {σ : L2.St} {H : Hp} {ta : TA} {N i j : Nat} {p : Addr} {xs : List V} {De : Ends} (e : σ[i]? = some (some (.ref p))) (hp : H p = some (.lst xs)) (it0 : ∀ x ∈ xs, Itm K d l n b m t H x) (lit : WxA K d l c n b m t σ H ta N) (dk : Dek H d l c) (hN : xs.length + N ≤ 1000)
    (q : ∀ (p2 : Addr) (ys : List V) (H2 : Hp), Same H H2 → Dek H2 d l c → p2 ≠ d → p2 ≠ l → H p2 = none → H2 p2 = some (.lst ys) → (∀ y ∈ ys, Itm K d l n b m t H2 y) → ys.length = xs.length + N → De.nx (σ.set j (some (.ref p2))) H2) :
    tAsg (tOp rCat (tVar i) (tLst ta)) (gName j) De σ H := by
  refine ⟨_, e, lit H _ (Same.refl H) dk fun zs H1 s1 dk1 it hl => ⟨Nat.le_of_lt (small1000 (by omega)), fun p1 np1 => ?_⟩⟩
  have s2 : Same H (upd H1 p1 (.lst zs)) := s1.trans (same_new np1)
  have dk2 := dk1.upd (o := .lst zs) np1
  have h1 : upd H1 p1 (.lst zs) p1 = some (.lst zs) := upd_same
  refine ⟨p, p1, xs, zs, rfl, rfl, s2 _ _ hp, h1, Nat.le_of_lt (small1000 (by omega)), fun p2 np2 => ?_⟩
  refine q p2 _ _ (s2.trans (same_new np2)) (dk2.upd np2) (dk2.ne np2).1 (dk2.ne np2).2 (s2.free np2) upd_same (fun y hy => ?_) (by rw [List.length_append, hl])
  rcases List.mem_append.mp hy with h | h
  · exact (it0 y h).same (s2.trans (same_new np2))
  · exact (it y h).same ((same_new np1).trans (same_new np2))
theorem dxA_ints {H : Hp} : ∀ {xs : List V} {ns : List Int}, DxAll K H xs (ns.map PyData.int) → xs = ns.map V.int
  | _, [], .nil => rfl
  | _, n :: ns, .cons a b => by
    cases a
    rw [dxA_ints b]
    rfl
theorem k_bm {X : Cx} {T id : String} {name : Str} {apos cpos : Pos} {o e : Expr} {es : List Expr} {to : TE} {t : TA} {r : V → List V → Hp → VK → Prop} (pa : PlainAttrs T) (slot : Slot T name id) (hty : typeOf (.builtin id) = pure (.type "method_descriptor")) (hm : MtR X id r) (ho : PE X o to) (ha : PA X (e :: es) t)
    (hbase : attributeBase o name X.env (eval o X.env) = eval o X.env := by rfl)
    (hfew : ((backTo cpos (starEach (e :: es) X.env)).all (fun x => !x.1) && (backToKw cpos (keywordEach [] X.env)).all (fun x => x.1.isSome)
      && decide ((e :: es).length + ([] : List Keyword).length + (if ([] : List Keyword).isEmpty then 0 else 1) < 30)) = true := by rfl)
    (hline : (apos.endLine == cpos.line) = true := by rfl) (hs : starEach (e :: es) X.env = (false, eval e X.env) :: starEach es X.env := by rfl) (hplain : (backTo cpos (starEach es X.env)).any (·.1) = false := by rfl) (eK : X.K = K := by rfl) :
    PE X (.Call (.Attribute o name apos) (e :: es) [] cpos) (tBM K T r to t) := by
  subst eK
  exact pe_bm pa slot hty hm ho ha hbase hfew hline hs hplain
theorem k_index {X : Cx} (e : X.K = K := by rfl) : MtR X "list.index" (rIndex K) := by
  subst e
  exact mt_index
theorem k_tupI {X : Cx} {tg e : Expr} {te : TE} (he : PE X e te) (eK : X.K = K := by rfl) : PI X tg e (iTup K te) := by
  subst eK
  exact pi_tup he
theorem k_listI {X : Cx} {tg e : Expr} {te : TE} (he : PE X e te) (eK : X.K = K := by rfl) : PI X tg e (iList K te) := by
  subst eK
  exact pi_list he
end
end SG

/-! Places, one by one. -/
namespace SG
theorem idx_snoc {P : Int → Bool} (x : Int) : ∀ (l : List Int) (k : Nat), idx P k (l ++ [x]) = idx P k l ++ (if P x = true then [((k + l.length : Nat) : Int)] else [])
  | [], k => by
    show (if P x = true then (k : Int) :: idx P (k + 1) [] else idx P (k + 1) []) = _
    simp [idx]
  | y :: l, k => by
    show (if P y = true then (k : Int) :: idx P (k + 1) (l ++ [x]) else idx P (k + 1) (l ++ [x])) = (if P y = true then (k : Int) :: idx P (k + 1) l else idx P (k + 1) l) ++ _
    rw [idx_snoc x l (k + 1), List.length_cons, show k + 1 + l.length = k + (l.length + 1) by omega]
    split <;> simp
theorem idx_first {S : Int} : ∀ (w : List Int) (i : Nat), S ∈ w → ∃ j : Nat, w[j]? = some S ∧ (∀ m, m < j → w[m]? ≠ some S) ∧ at0 (idx (isS S) i w) 0 = ((i + j : Nat) : Int)
  | [], _, h => by simp at h
  | x :: w, i, h => by
    by_cases e : x = S
    · refine ⟨0, by simp [e], fun m hm => absurd hm (Nat.not_lt_zero _), ?_⟩
      show at0 (if isS S x = true then (i : Int) :: idx (isS S) (i + 1) w else _) 0 = _
      rw [if_pos (by unfold isS; exact decide_eq_true e)]
      rfl
    · have h2 : S ∈ w := by
        rcases List.mem_cons.mp h with z | z
        · exact absurd z.symm e
        · exact z
      obtain ⟨j, h1, hb, ha⟩ := idx_first w (i + 1) h2
      refine ⟨j + 1, by simpa using h1, fun m hm => ?_, ?_⟩
      · cases m with
        | zero => simpa using e
        | succ m => simpa using hb m (by omega)
      · show at0 (if isS S x = true then (i : Int) :: idx (isS S) (i + 1) w else idx (isS S) (i + 1) w) 0 = _
        rw [if_neg (by unfold isS; simpa using e), ha]
        congr 1
        omega
end SG

namespace SG
open PySem PySem.Spec PyProof.Rows L2 TL
open SX (S S_tl S_len)
section
variable {P : Program} {w : World} {K : PySem.W.Frag} {mg : Str → Option Value} {base : Heap}
/-- weights -/
structure Ws (ws : List Int) (S : Int) : Prop where
  nn : ∀ x ∈ ws, 0 ≤ x
  sum : ws.sum = S
  pos : 0 < S
  le : S ≤ 400
  len : ws.length ≤ 400
theorem Ws.inS {ws : List Int} {S : Int} (h : Ws ws S) : ∀ x ∈ ws, 0 ≤ x ∧ x ≤ S := fun x hx => ⟨h.nn x hx, by rw [← h.sum]; exact mem_le_sum ws h.nn x hx⟩
theorem in_ints (x : Int) (ws : List Int) : inV (.int x) (ws.map V.int) = decide (x ∈ ws) := by
  unfold inV
  rw [List.any_map]
  refine Bool.eq_iff_iff.mpr ?_
  rw [List.any_eq_true, decide_eq_true_eq]
  constructor
  · rintro ⟨y, hy, e⟩
    have e : eqV (V.int y) (V.int x) = true := e
    have : y = x := by simpa [eqV] using e
    exact this ▸ hy
  · intro h
    exact ⟨x, h, by simp [eqV]⟩
theorem atI_at0 {l : List Int} {q : Int} (h0 : 0 ≤ q) (h : q < l.length) : atI (l.map V.int) q = some (.int (at0 l q)) := by
  have hq : q.toNat < l.length := by omega
  obtain ⟨k, rfl⟩ : ∃ k : Nat, q = (k : Int) := ⟨q.toNat, by omega⟩
  have hk : k < l.length := by omega
  refine atI_nat ?_
  rw [List.getElem?_map, List.getElem?_eq_getElem hk]
  unfold at0
  rw [List.getD_eq_getElem?_getD]
  show _ = some (V.int ((l[(k : Int).toNat]?).getD 0))
  rw [Int.toNat_natCast, List.getElem?_eq_getElem hk]
  rfl
end
end SG

namespace SG
open PySem PySem.Spec PyProof.Rows L2 TL
section
variable {P : Program} {w : World} {K : PySem.W.Frag} {mg : Str → Option Value} {base : Heap}
def spSummed (K : PySem.W.Frag) : Sp := fun vs H Q _ => ∃ (a : Addr) (xs : List Int), vs = [.ref a] ∧ SqL K H a (xs.map V.int) ∧ Q (.int (2 * weighed xs)) H
theorem ok_summed {f : Addr} {fd : FuncData} (F : Fun K "_law_summed" "_law_summed" s__law_summed f fd) (T : Txt mg) : GFn P w K mg base CX0 1 f fd ["_law_opens"] (spSummed K) := by
  refine gfun_ok F sc__law_summed (fun vs H Q E h => ?_) (fun cdv A outer s H vs Q E hgu hr h => ?_)
  · obtain ⟨a, xs, rfl, _⟩ := h
    rfl
  · obtain ⟨a, xs, rfl, hS, q⟩ := h
    have nd := sc__law_summed.nd
    refine ⟨_, (pss_cons (ps_set (i := 1) nd rfl (Or.inl rfl) pe_int)
      (pss_cons (ps_for PassesOwn.never rfl (pi_list (pv 0)) (pg_name (i := 2) nd rfl (Or.inl rfl))
        (pss_one (ps_set (i := 1) nd rfl (Or.inl rfl) (pe_op op_mul pe_int (pe_op op_add (pv 1) (pv 2))))))
      (pss_one (ps_ret (pv 1))))), ?_⟩
    refine ⟨_, rfl, a, rfl, ⟨_, hS⟩, for_list (K := K) (a := a) (xs := xs.map V.int) (fun i σ H2 => ∃ y : Option V, σ = [some (.ref a), some (.int (2 * weighed (xs.take i))), y] ∧ H2 = H) ⟨none, rfl, rfl⟩ (fun i σ H2 _ ⟨_, _, e⟩ => e ▸ hS) ?_ ?_⟩
    · rintro i y σ H2 hi ⟨y3, rfl, rfl⟩
      obtain ⟨z, hz, rfl⟩ : ∃ z, xs[i]? = some z ∧ y = V.int z := by
        rw [List.getElem?_map] at hi
        obtain ⟨z, hz, e⟩ := Option.map_eq_some_iff.mp hi
        exact ⟨z, hz, e.symm⟩
      have e : weighed (xs.take (i + 1)) = 2 * weighed (xs.take i) + z := by
        rw [List.take_succ, hz]
        exact weighed_snoc _ _
      refine ⟨_, rfl, _, rfl, _, _, rfl, rfl, _, _, rfl, rfl, .inl ⟨by decide, by decide⟩, some (.int z), ?_, rfl⟩
      rw [e]
      rfl
    · rintro σ H2 ⟨y3, rfl, rfl⟩
      refine ⟨_, rfl, ?_⟩
      rw [List.length_map, List.take_length]
      exact q
def spLawMean (K : PySem.W.Frag) : Sp := fun vs H Q _ => ∃ (a : Addr) (ws : List Int) (W : Int), vs = [.ref a] ∧ SqT K H a (ws.map V.int) ∧ Ws ws W ∧
  ∀ (p : Addr) (i n : Nat) (H2 : Hp), IsRound (restsAt W ws) i n → Same H H2 → SqT K H2 p (meanV (openO W ws) i n) → Q (.ref p) H2
theorem ok_lawMean {f f1 f2 f3 : Addr} {fd fd1 fd2 fd3 : FuncData} (F : Fun K "_law_mean_by" "_law_mean_by" s__law_mean_by f fd) (F__law_summed : Fun K "_law_summed" "_law_summed" s__law_summed f1 fd1) (m__law_summed : mg "_law_summed" = some (.ref f1)) (b__law_summed : Binds K fd1 ["_law_opens"] [])
    (F__law_twos : Fun K "_law_twos" "_law_twos" s__law_twos f2 fd2) (m__law_twos : mg "_law_twos" = some (.ref f2)) (b__law_twos : Binds K fd2 ["_law_much"] [])
    (F__law_ratio : Fun K "_law_ratio" "_law_ratio" s__law_ratio f3 fd3) (m__law_ratio : mg "_law_ratio" = some (.ref f3)) (b__law_ratio : Binds K fd3 ["_law_top", "_law_bottom"] []) (T : Txt mg) : GFn P w K mg base CX0 2 f fd ["_law_loads"] (spLawMean K) := by
  have G__law_summed : GFn P w K mg base CX0 1 f1 fd1 ["_law_opens"] (spSummed K) := ok_summed F__law_summed T
  have G__law_twos : GFn P w K mg base CX0 1 f2 fd2 ["_law_much"] spTwos := ok_twos F__law_twos T
  have G__law_ratio : GFn P w K mg base CX0 1 f3 fd3 ["_law_top", "_law_bottom"] (spRatio K) := ok_ratio F__law_ratio T
  refine gfun_ok F sc__law_mean_by (fun vs H Q E h => ?_) (fun cdv A outer s H vs Q E hgu hr h => ?_)
  · obtain ⟨a, ws, W, rfl, _⟩ := h
    rfl
  · obtain ⟨a, ws, W, rfl, ha, hw, q⟩ := h
    have nd := sc__law_mean_by.nd
    refine ⟨_, (pss_cons (ps_asg (pe_tup (pa_cons (pe_callB (k_sumT (K := K) rfl) (by rfl) T.sum (by decide +kernel) (pa_cons (pv 0) pa_nil)) (pa_cons (pe_callTy (k_listOf (K := K)) (by rfl) T.list (by decide +kernel) (pa_cons (pv 0) pa_nil)) (pa_cons pe_dnewT (pa_cons (pe_lst pa_nil) pa_nil))))) (k_tg (K := K) (n := 4) rfl (pgs_cons (pg_name (i := 1) nd rfl (Or.inr rfl)) (pgs_cons (pg_name (i := 2) nd rfl (Or.inl rfl)) (pgs_cons (pg_name (i := 3) nd rfl (Or.inl rfl)) (pgs_cons (pg_name (i := 4) nd rfl (Or.inl rfl)) pgs_nil))))))
      (pss_cons (ps_setLc (i := 2) (own := [("_law_rest", 10)]) rfl nd rfl rfl (sw_true rfl rfl rfl (by decide +kernel)) (pi_list (pv 2)) (blkOk_by (N := N__law_mean_by) (sc := defScope s__law_mean_by) (by decide +kernel)) (fun _ _ _ _ _ => (pg_name (i := 10) nd rfl (Or.inl rfl))) (fun _ _ _ _ _ => pts_nil) (fun _ _ _ _ _ => (pe_op op_mod (pv 10) (pv 1))))
      (pss_cons (ps_while PassesOwn.never (pt_cmp (pc_dnotin (hu_of hr) (pe_callTy (k_tupOf (K := K)) (by rfl) T.tuple (by decide +kernel) (pa_cons (pv 2) pa_nil)) (pv 3))) (pss_cons (ps_dput (hu_of hr) (pv 3) (pe_callTy (k_tupOf (K := K)) (by rfl) T.tuple (by decide +kernel) (pa_cons (pv 2) pa_nil)) (pe_callB (k_len (K := K)) (by rfl) T.len (by decide +kernel) (pa_cons (pv 4) pa_nil)) rfl)
      (pss_cons (ps_expr (pe_bm PySem.F.plainAttrs_list PySem.F.slot_list_append PySem.F.type_list_append mt_append (pv 4) (pa_cons (pe_op op_fdivW (pe_callB (k_sum (K := K) rfl) (by rfl) T.sum (by decide +kernel) (pa_cons (pv 2) pa_nil)) (pv 1)) pa_nil)))
      (pss_one (ps_setLc (i := 2) (own := [("_law_rest", 10)]) rfl nd rfl rfl (sw_true rfl rfl rfl (by decide +kernel)) (pi_list (pv 2)) (blkOk_by (N := N__law_mean_by) (sc := defScope s__law_mean_by) (by decide +kernel)) (fun _ _ _ _ _ => (pg_name (i := 10) nd rfl (Or.inl rfl))) (fun _ _ _ _ _ => pts_nil) (fun _ _ _ _ _ => (pe_op op_mod (pe_callTy call_int1 (by rfl) T.int (by decide +kernel) (pa_cons (pe_op op_mul pe_int (pv 10)) pa_nil)) (pv 1))))))))
      (pss_cons (ps_set (i := 5) nd rfl (Or.inl rfl) (pe_dget (hu_of hr) (pv 3) (pe_callTy (k_tupOf (K := K)) (by rfl) T.tuple (by decide +kernel) (pa_cons (pv 2) pa_nil)) (fun _ _ => rfl)))
      (pss_cons (ps_par (i := 6) (j := 7) rfl nd rfl rfl (by decide) rfl rfl (pa_cons (pe_g G__law_summed hgu (hr.mono (by decide)) (by rfl) m__law_summed F__law_summed.kp b__law_summed .nil pass0 (pa_cons (pe_slice (k_slL (K := K)) (pv 4) po_none (po_some (pv 5))) pa_nil)) (pa_cons (pe_g G__law_summed hgu (hr.mono (by decide)) (by rfl) m__law_summed F__law_summed.kp b__law_summed .nil pass0 (pa_cons (pe_slice (k_slL (K := K)) (pv 4) (po_some (pv 5)) po_none) pa_nil)) pa_nil)) (by rfl))
      (pss_cons (ps_par (i := 8) (j := 9) rfl nd rfl rfl (by decide) rfl rfl (pa_cons (pe_g G__law_twos hgu (hr.mono (by decide)) (by rfl) m__law_twos F__law_twos.kp b__law_twos .nil pass0 (pa_cons (pv 5) pa_nil)) (pa_cons (pe_op op_sub (pe_g G__law_twos hgu (hr.mono (by decide)) (by rfl) m__law_twos F__law_twos.kp b__law_twos .nil pass0 (pa_cons (pe_op op_sub (pe_callB (k_len (K := K)) (by rfl) T.len (by decide +kernel) (pa_cons (pv 4) pa_nil)) (pv 5)) pa_nil)) pe_int) pa_nil)) (by rfl))
      (pss_one (ps_ret (pe_g G__law_ratio hgu (hr.mono (by decide)) (by rfl) m__law_ratio F__law_ratio.kp b__law_ratio .nil pass0 (pa_cons (pe_op op_add (pe_op op_mulW (pv 6) (pv 9)) (pv 7)) (pa_cons (pe_op op_mulW (pv 8) (pv 9)) pa_nil))))))))))), ?_⟩
    have W0 := hw.pos
    have wl := hw.len
    refine ⟨_, rfl, a, ws, rfl, ha, _, rfl, a, _, rfl, .inr ha, fun r0 nr0 => ?_⟩
    rw [hw.sum]
    have s0 : Same H (upd H r0 (.lst (ws.map V.int))) := same_new nr0
    have e0 : upd H r0 (.lst (ws.map V.int)) r0 = some (.lst (ws.map V.int)) := upd_same
    generalize upd H r0 (.lst (ws.map V.int)) = H0 at s0 e0 ⊢
    refine fun d nd0 => ⟨Nat.zero_le _, fun po npo => ⟨by show 4 ≤ sizeLine; decide, fun t nt => ⟨t, _, rfl, .inl (.inl upd_same), rfl, _, _, rfl, _, _, rfl, _, _, rfl, _, _, rfl, rfl, ?_⟩⟩⟩
    have s1 : Same H0 (upd (upd (upd H0 d (.dT [])) po (.lst [])) t (.tup [.int W, .ref r0, .ref d, .ref po])) := ((same_new nd0).trans (same_new npo)).trans (same_new nt)
    have dpo : d ≠ po := fun z => by rw [← z, upd_same] at npo; cases npo
    have hd1 : upd (upd (upd H0 d (.dT [])) po (.lst [])) t (.tup [.int W, .ref r0, .ref d, .ref po]) d = some (.dT []) := (same_new nt) _ _ ((same_new npo) _ _ upd_same)
    have hp1 : upd (upd (upd H0 d (.dT [])) po (.lst [])) t (.tup [.int W, .ref r0, .ref d, .ref po]) po = some (.lst []) := (same_new nt) _ _ upd_same
    have nd1 : H d = none := s0.free nd0
    have npo1 : H po = none := (s0.trans (same_new nd0)).free npo
    have e1 := s1 _ _ e0
    have s2 := s0.trans s1
    generalize upd (upd (upd H0 d (.dT [])) po (.lst [])) t (.tup [.int W, .ref r0, .ref d, .ref po]) = H1 at hd1 hp1 e1 s2 ⊢
    refine ⟨_, rfl, r0, rfl, ⟨_, SqL.of e1⟩, fun D nD => ?_⟩
    refine lc_same (walk_list (K := K) (a := r0) (xs := ws.map V.int)) (by rw [List.length_map]; omega) nD (fun i acc _ => acc = (redu W (ws.take i)).map V.int) rfl (fun _ _ _ _ _ h => h) (fun H5 s5 => s5.seq (SqL.of e1)) ?_ ?_
    · rintro i x acc H5 H6 hi s5 rfl ⟨rfl, hx⟩ R N hR hN
      obtain ⟨z, hz, rfl⟩ : ∃ z, ws[i]? = some z ∧ x = V.int z := by
        rw [List.getElem?_map] at hx
        obtain ⟨z, hz, e⟩ := Option.map_eq_some_iff.mp hx
        exact ⟨z, hz, e.symm⟩
      refine ⟨wipe1 _ _ _, yesI ?_⟩
      refine ⟨_, rfl, _, rfl, _, _, rfl, rfl, W0, hR _ _ (Same.refl _) ?_⟩
      rw [List.take_succ, hz]
      simp [redu]
    · rintro acc H2 s3 hl2 hD rfl
      rw [List.length_map, List.take_length, ← restsAt_zero] at hD
      have fewK : ∀ n, (∀ a b, a < b → b < n → keyT (restsAt W ws) a ≠ keyT (restsAt W ws) b) → n ≤ W.toNat := fun n h => by
        have := round_le W0 ws (n := n) fun a b h1 h2 e => h a b h1 h2 (congrArg (List.map Sum.inl) e)
        omega
      refine ⟨fun m σ HI => ∃ (j : Nat) (rr : Addr), σ = [some (.ref a), some (.int W), some (.ref rr), some (.ref d), some (.ref po), none, none, none, none, none, none] ∧ m + j = W.toNat + 1 ∧ Same H HI ∧ HI rr = some (.lst ((restsAt W ws j).map V.int)) ∧ HI d = some (.dT (metV (keyT (restsAt W ws)) j)) ∧
        HI po = some (.lst ((opensTo (openO W ws) j).map V.int)) ∧ (∀ a b, a < b → b < j → keyT (restsAt W ws) a ≠ keyT (restsAt W ws) b) ∧ rr ≠ po, ⟨W.toNat + 1, 0, D, rfl, rfl, s2.trans s3, hD, s3 _ _ hd1, s3 _ _ hp1, fun a b _ h => absurd h (Nat.not_lt_zero _), fun z => by rw [z, hp1] at nD; cases nD⟩, ?_⟩
      rintro m σ HI ⟨j, rr, rfl, hm, sI, hrr, hd, hpo, ds, rpo⟩
      have ol : ∀ k, (opensTo (openO W ws) k).length = k := fun k => by simp [opensTo]
      -- the rests as a key
      have key : ∀ (HZ : Hp) (t : Addr), HZ t = some (.tup ((restsAt W ws j).map V.int)) → HZ d = some (.dT (metV (keyT (restsAt W ws)) j)) → DGet HZ d (.ref t) (valV (metV (keyT (restsAt W ws)) j) (keyT (restsAt W ws) j)) := fun HZ t h1 h2 => .inr ⟨_, keyT (restsAt W ws) j, t, .inl h2, rfl, (by rw [key_ints]; exact h1), rfl⟩
      refine ⟨_, rfl, rr, _, rfl, .inl ⟨SqL.of hrr, fun t1 nt1 => ⟨_, rfl, d, _, rfl, key _ t1 upd_same ((same_new nt1) _ _ hd), ?_⟩⟩⟩
      have sA : Same HI (upd HI t1 (.tup ((restsAt W ws j).map V.int))) := same_new nt1
      generalize upd HI t1 (.tup ((restsAt W ws j).map V.int)) = HA at sA ⊢
      have hrr := sA _ _ hrr
      have hd := sA _ _ hd
      have hpo := sA _ _ hpo
      have sI := sI.trans sA
      rcases met_cases ds with ⟨i, hi, hv⟩ | ⟨nn, hv⟩
      · rw [hv]
        refine ⟨_, rfl, ifF rfl ?_⟩
        have hrd := keyT_round.mp hi
        have jW := fewK j ds
        have W4 := hw.le
        -- the first one
        refine ⟨_, rfl, _, rfl, rr, _, rfl, .inl ⟨SqL.of hrr, fun t2 nt2 => ?_⟩⟩
        have k2 := key _ t2 upd_same ((same_new (o := .tup ((restsAt W ws j).map V.int)) nt2) _ _ hd)
        rw [hv] at k2
        refine ⟨d, _, rfl, k2, ?_⟩
        have sB : Same HA (upd HA t2 (.tup ((restsAt W ws j).map V.int))) := same_new nt2
        generalize upd HA t2 (.tup ((restsAt W ws j).map V.int)) = HB at sB ⊢
        have hpo := sB _ _ hpo
        have sI := sI.trans sB
        have ho : ∀ k, 0 ≤ openO W ws k ∧ openO W ws k ≤ 1000 := fun k => by
          have := open_in W0 ws k
          omega
        have ij := hrd.1
        obtain ⟨a0, a1, b0, b1⟩ := top_in (n := j) ho (by decide) (by decide) ij (by omega)
        have er : (j : Int) - (i : Int) = ((j - i : Nat) : Int) := by omega
        have pw := pow_le400 (k := j - i) (by omega)
        have pi := pow_le400 (k := i) (by omega)
        refine ⟨_, rfl, _, rfl, i, rfl, po, _, rfl, SqL.of hpo, fun p1 np1 => ?_⟩
        rw [cut_take, ← List.map_take]
        have sC : Same HB (upd HB p1 (.lst (((opensTo (openO W ws) j).take i).map V.int))) := same_new np1
        refine ⟨p1, _, rfl, SqL.of upd_same, ?_⟩
        generalize upd HB p1 (.lst (((opensTo (openO W ws) j).take i).map V.int)) = HC at sC ⊢
        have hpo := sC _ _ hpo
        have sI := sI.trans sC
        refine ⟨_, rfl, _, rfl, i, rfl, po, _, rfl, SqL.of hpo, fun p2 np2 => ?_⟩
        rw [cut_drop, ← List.map_drop]
        have sD : Same HC (upd HC p2 (.lst (((opensTo (openO W ws) j).drop i).map V.int))) := same_new np2
        refine ⟨p2, _, rfl, SqL.of upd_same, _, _, rfl, ?_⟩
        generalize upd HC p2 (.lst (((opensTo (openO W ws) j).drop i).map V.int)) = HD at sD ⊢
        have hpo := sD _ _ hpo
        have sI := sI.trans sD
        refine ⟨_, rfl, i, rfl, by omega, _, rfl, po, _, rfl, .inl (SqL.of hpo), _, rfl, _, _, rfl, rfl, j - i, (by rw [List.length_map, ol]; show [V.int ((j : Int) - (i : Int))] = _; rw [er]), by omega, _, _, rfl, rfl, _, _, rfl, ?_⟩
        have et : topM (openO W ws) i j = 2 * weighed ((opensTo (openO W ws) j).take i) * (2 ^ (j - i) - 1) + 2 * weighed ((opensTo (openO W ws) j).drop i) := by
          unfold topM
          have e1 : weighed ((opensTo (openO W ws) j).take i) * (2 ^ (j - i) - 1) * 2 = 2 * weighed ((opensTo (openO W ws) j).take i) * (2 ^ (j - i) - 1) := by
            rw [Int.mul_comm _ 2, ← Int.mul_assoc]
          omega
        have eb : botM i j = 2 ^ i * (2 ^ (j - i) - 1) := Int.mul_comm ..
        have one : (1 : Int) ≤ 2 ^ (j - i) - 1 := by
          have : (2 : Int) ^ 1 ≤ 2 ^ (j - i) := by
            have q : (2 : Nat) ^ 1 ≤ 2 ^ (j - i) := Nat.pow_le_pow_right (by decide) (by omega)
            exact_mod_cast q
          omega
        generalize weighed ((opensTo (openO W ws) j).take i) = Wa at a0 a1 et ⊢
        generalize weighed ((opensTo (openO W ws) j).drop i) = Wb at b0 b1 et ⊢
        have f1 : (2 : Int) ^ (j - i) - 1 < 2 ^ 500 := Int.lt_of_le_of_lt (show (2 : Int) ^ (j - i) - 1 ≤ 2 ^ 400 by omega) (by decide +kernel)
        have c1 : CMulW (2 * Wa) (2 ^ (j - i) - 1) := wide_mul (a := 500) (b := 500) (bits_lt (by omega) (Int.lt_of_le_of_lt (show 2 * Wa ≤ 2 * (2 ^ 400 * 1000) by omega) (by decide +kernel))) (bits_lt (by omega) f1) (by decide) (by decide) (by decide)
        have c2 : CMulW (2 ^ i) (2 ^ (j - i) - 1) := wide_mul (a := 500) (b := 500) (bits_lt (by omega) (Int.lt_of_le_of_lt pi.2 (by decide +kernel))) (bits_lt (by omega) f1) (by decide) (by decide) (by decide)
        have m0 : 0 ≤ 2 * Wa * (2 ^ (j - i) - 1) := Int.mul_nonneg (by omega) (by omega)
        have m1 : 2 * Wa * (2 ^ (j - i) - 1) ≤ 2 * (2 ^ 400 * 1000) * 2 ^ 400 := Int.le_trans (Int.mul_le_mul_of_nonneg_right (show 2 * Wa ≤ 2 * (2 ^ 400 * 1000) by omega) (by omega)) (Int.mul_le_mul_of_nonneg_left (by omega) (by decide +kernel))
        have bp : 0 < botM i j := Int.mul_pos (by omega) (by omega)
        have bl : botM i j ≤ 2 ^ 400 * 2 ^ 400 := Int.le_trans (Int.mul_le_mul_of_nonneg_right (show (2 : Int) ^ (j - i) - 1 ≤ 2 ^ 400 by omega) (by omega)) (Int.mul_le_mul_of_nonneg_left pi.2 (by decide +kernel))
        have tl : topM (openO W ws) i j ≤ 2 * (2 ^ 400 * 1000) * 2 ^ 400 + 2 * (2 ^ 400 * 1000) := by rw [et]; omega
        have t0 : 0 ≤ topM (openO W ws) i j := by rw [et]; omega
        refine ⟨_, rfl, _, rfl, _, _, rfl, rfl, c1, _, rfl, _, _, rfl, rfl, _, rfl, _, rfl, _, _, rfl, rfl, c2, ?_⟩
        refine ⟨2 * Wa * (2 ^ (j - i) - 1) + 2 * Wb, 2 ^ i * (2 ^ (j - i) - 1), rfl, by rw [← eb]; omega, by rw [← et]; exact bits_lt t0 (Int.lt_of_le_of_lt tl (by decide +kernel)), by rw [← eb]; exact bits_lt (by omega) (Int.lt_of_le_of_lt bl (by decide +kernel)), fun p H3 s3 h3 => ?_⟩
        rw [← et, ← eb] at h3
        exact q p i j H3 hrd (sI.trans s3) h3
      · rw [hv]
        refine ⟨_, rfl, ifT rfl ?_⟩
        have more := met_more ds nn
        have jN := fewK _ more
        have W4 := hw.le
        refine ⟨fun σ2 H2 => ∃ (j2 : Nat) (r2 : Addr), j2 = j + 1 ∧ σ2 = [some (.ref a), some (.int W), some (.ref r2), some (.ref d), some (.ref po), none, none, none, none, none, none] ∧ Same H H2 ∧ H2 r2 = some (.lst ((restsAt W ws j2).map V.int)) ∧ H2 d = some (.dT (metV (keyT (restsAt W ws)) j2)) ∧ H2 po = some (.lst ((opensTo (openO W ws) j2).map V.int)) ∧ r2 ≠ po, ?_, ?_⟩
        · rintro σ2 H2 ⟨j2, r2, rfl, rfl, s2, h1, h2, h3, h4⟩
          exact ⟨W.toNat - j, by omega, j + 1, r2, rfl, by omega, s2, h1, h2, h3, more, h4⟩
        · refine ⟨_, rfl, po, _, rfl, .inl (SqL.of hpo), _, rfl, _, rfl, rr, _, rfl, .inl ⟨SqL.of hrr, fun t2 nt2 => ?_⟩⟩
          rw [List.length_map, ol]
          have sB : Same HA (upd HA t2 (.tup ((restsAt W ws j).map V.int))) := same_new nt2
          have ht : upd HA t2 (.tup ((restsAt W ws j).map V.int)) t2 = some (.tup ((restsAt W ws j).map V.int)) := upd_same
          generalize upd HA t2 (.tup ((restsAt W ws j).map V.int)) = HB at sB ht ⊢
          have hrr := sB _ _ hrr
          have hd := sB _ _ hd
          have hpo := sB _ _ hpo
          have sI := sI.trans sB
          have hp : DPut HB d (.ref t2) (.int (j : Int)) (upd HB d (.dT (metV (keyT (restsAt W ws)) (j + 1)))) := .inr ⟨_, keyT (restsAt W ws) j, t2, hd, rfl, (by rw [key_ints]; exact ht), (by rw [metV_len]; exact small1000 (by omega)), by rw [metV_put nn]⟩
          have rd : rr ≠ d := fun z => by rw [z, hd] at hrr; cases hrr
          refine ⟨d, _, rfl, hp, ?_⟩
          have sC : Same H (upd HB d (.dT (metV (keyT (restsAt W ws)) (j + 1)))) := same_upd_of sI nd1
          have hrr2 : upd HB d (.dT (metV (keyT (restsAt W ws)) (j + 1))) rr = some (.lst ((restsAt W ws j).map V.int)) := by rw [upd_ne rd]; exact hrr
          have hpo2 : upd HB d (.dT (metV (keyT (restsAt W ws)) (j + 1))) po = some (.lst ((opensTo (openO W ws) j).map V.int)) := by rw [upd_ne dpo.symm]; exact hpo
          have hd2 : upd HB d (.dT (metV (keyT (restsAt W ws)) (j + 1))) d = some (.dT (metV (keyT (restsAt W ws)) (j + 1))) := upd_same
          generalize upd HB d (.dT (metV (keyT (restsAt W ws)) (j + 1))) = HC at sC hrr2 hpo2 hd2 ⊢
          refine ⟨_, rfl, .inl ⟨rfl, _, SqL.of hpo2⟩, _, rfl, rr, _, rfl, SqL.of hrr2, _, rfl, _, _, rfl, rfl, wide_div (b := 200) W0 (bits_lt (by omega) (Int.lt_of_le_of_lt W4 (by decide))) (by decide) (by decide), po, _, _, rfl, rfl, hpo2, by rw [List.length_map, ol]; exact small1000 (by omega), ?_⟩
          have sE : Same H (upd HC po (.lst ((opensTo (openO W ws) j).map V.int ++ [V.int ((restsAt W ws j).sum / W)]))) := same_upd_of sC npo1
          have eo : (opensTo (openO W ws) j).map V.int ++ [V.int ((restsAt W ws j).sum / W)] = (opensTo (openO W ws) (j + 1)).map V.int := by
            unfold opensTo
            rw [List.range_succ, List.map_append, List.map_append]
            rfl
          rw [eo] at sE ⊢
          have hrr3 : upd HC po (.lst ((opensTo (openO W ws) (j + 1)).map V.int)) rr = some (.lst ((restsAt W ws j).map V.int)) := by rw [upd_ne rpo]; exact hrr2
          have hd3 : upd HC po (.lst ((opensTo (openO W ws) (j + 1)).map V.int)) d = some (.dT (metV (keyT (restsAt W ws)) (j + 1))) := by rw [upd_ne dpo]; exact hd2
          have hpo3 : upd HC po (.lst ((opensTo (openO W ws) (j + 1)).map V.int)) po = some (.lst ((opensTo (openO W ws) (j + 1)).map V.int)) := upd_same
          generalize upd HC po (.lst ((opensTo (openO W ws) (j + 1)).map V.int)) = HE at sE hrr3 hd3 hpo3 ⊢
          refine ⟨_, rfl, rr, rfl, ⟨_, SqL.of hrr3⟩, fun D2 nD2 => ?_⟩
          refine lc_same (walk_list (K := K) (a := rr) (xs := (restsAt W ws j).map V.int)) (by rw [List.length_map, rests_len]; omega) nD2 (fun i acc _ => acc = (dbl W ((restsAt W ws j).take i)).map V.int) rfl (fun _ _ _ _ _ h => h) (fun H5 s5 => s5.seq (SqL.of hrr3)) ?_ ?_
          · rintro i x acc H5 H6 hi s5 rfl ⟨rfl, hx⟩ R N hR hN
            obtain ⟨z, hz, rfl⟩ : ∃ z, (restsAt W ws j)[i]? = some z ∧ x = V.int z := by
              rw [List.getElem?_map] at hx
              obtain ⟨z, hz, e⟩ := Option.map_eq_some_iff.mp hx
              exact ⟨z, hz, e.symm⟩
            refine ⟨wipe1 _ _ _, yesI ?_⟩
            refine ⟨_, rfl, _, _, rfl, rfl, .inl ⟨by decide, by decide⟩, .inl ⟨_, rfl, _, rfl, _, _, rfl, rfl, W0, hR _ _ (Same.refl _) ?_⟩⟩
            rw [List.take_succ, hz]
            simp [dbl]
          · rintro acc H5 s5 hl5 hD rfl
            rw [List.length_map, List.take_length, ← restsAt_succ] at hD
            exact ⟨j + 1, D2, rfl, rfl, sE.trans s5, hD, s5 _ _ hd3, s5 _ _ hpo3, fun z => by rw [z, hpo3] at nD2; cases nD2⟩
end
end SG

namespace SG
open PySem PySem.Spec PyProof.Rows L2 TL
open SX (S S_tl S_len)
section
variable {P : Program} {w : World} {K : PySem.W.Frag} {mg : Str → Option Value} {base : Heap}
def spOpenAt : Sp := fun vs H Q _ => ∃ (m n : Nat), vs = [.int m, .int n] ∧ 1 ≤ m ∧ m < 10 ^ 60 ∧ n ≤ 400 ∧ ∀ H2, Same H H2 → Q (.int (2 ^ n % m)) H2
def spLeavesAt : Sp := fun vs H Q _ => ∃ (m n : Nat), vs = [.int m, .int n] ∧ 1 ≤ m ∧ m < 10 ^ 60 ∧ n ≤ 400 ∧ ∀ H2, Same H H2 → Q (.int (leavesOf m (2 ^ n))) H2
/-- 2 to the power of a depth, by its figures of base 2 -/
def spPow : Sp := fun vs H Q _ => ∃ (m n : Nat), vs = [.int n, .int m] ∧ 1 ≤ m ∧ m < 10 ^ 60 ∧ n ≤ 400 ∧ ∀ H2, Same H H2 → Q (.int (2 ^ n % m)) H2
theorem ok_power_left {f : Addr} {fd : FuncData} (F : Fun K "power_left" "power_left" s_power_left f fd) (T : Txt mg) : GFn P w K mg base CX0 1 f fd ["depth", "many"] spPow := by
  refine gfun_ok F sc_power_left (fun vs H Q E h => ?_) (fun cdv A outer s H vs Q E hgu hr h => ?_)
  · obtain ⟨m, n, rfl, _⟩ := h
    rfl
  · obtain ⟨m, n, rfl, m1, m2, hn, q⟩ := h
    have nd := sc_power_left.nd
    obtain ⟨bv, bb, bn⟩ := bin_val n (by omega)
    refine ⟨_, (pss_cons (ps_set (i := 2) nd rfl (Or.inl rfl) (pe_op op_mod pe_int (pv 1)))
      (pss_cons (ps_for PassesOwn.never rfl (pi_str (pe_joined1 (pe_fmtB (pv 0)))) (pg_name (i := 3) nd rfl (Or.inl rfl))
        (pss_one (ps_set (i := 2) nd rfl (Or.inl rfl) (pe_op op_mod (pe_op op_mul (pe_op op_mulW (pv 2) (pv 2)) (pe_ifExp (pt_cmpR op_eq (pv 3) pe_str (nomark _)) pe_int pe_int)) (pv 1)))))
      (pss_one (ps_ret (pv 2))))), ?_⟩
    have mp : (0 : Int) < m := by omega
    refine ⟨_, rfl, _, _, rfl, rfl, mp, ?_⟩
    refine ⟨_, rfl, n, rfl, Nat.lt_of_le_of_lt hn (by decide +kernel), S (binS n), rfl, for_it walk_str (fun i σ HI => ∃ (l : Int) (y3 : Option V), σ = [some (.int n), some (.int m), some (.int l), y3] ∧ HI = H ∧ 0 ≤ l ∧ l < m ∧ powF m l ((binS n).drop i) = 2 ^ n % (m : Int)) ⟨_, none, rfl, rfl, mod_lo mp, mod_hi mp, ?_⟩ (fun _ _ _ _ _ => trivial) ?_ ?_⟩
    · have z := powF_ok mp (binS n) 0 bb
      rw [show valF 0 (binS n) = n from bv] at z
      exact z
    · rintro i x σ HI HJ hi ⟨l, y3, rfl, rfl, l0, l1, hd⟩ ⟨rfl, c, hc, rfl⟩
      have hi2 : i < (binS n).length := hi
      have ec : (binS n)[i] = c := by
        have z : (binS n)[i]? = some c := by simpa [S] using hc
        rw [List.getElem?_eq_getElem hi2] at z
        exact Option.some.inj z
      have hb : c = 48 ∨ c = 49 := by
        rw [← ec]
        exact bb _ (List.getElem_mem hi2)
      rw [List.drop_eq_getElem_cons hi2, ec] at hd
      have lb : l.natAbs < 2 ^ 200 := Nat.lt_of_lt_of_le (by omega : l.natAbs < 10 ^ 60) (by decide +kernel)
      refine ⟨_, rfl, _, rfl, _, _, rfl, rfl, wide_mul (a := 200) (b := 200) lb lb (by decide) (by decide) (by decide), ?_⟩
      refine ⟨_, rfl, rfl, _, rfl, ?_⟩
      rcases hb with rfl | rfl
      · have z : decide (V.str ⟨#[48]⟩ = V.str "1") = false := by decide +kernel
        refine ifF z ?_
        refine ⟨_, _, rfl, rfl, .inr ⟨by decide, by decide⟩, _, rfl, _, _, rfl, rfl, mp, _, _, rfl, rfl, mod_lo mp, mod_hi mp, hd⟩
      · have z : decide (V.str ⟨#[49]⟩ = V.str "1") = true := by decide +kernel
        refine ifT z ?_
        refine ⟨_, _, rfl, rfl, .inr ⟨by decide, by decide⟩, _, rfl, _, _, rfl, rfl, mp, _, _, rfl, rfl, mod_lo mp, mod_hi mp, hd⟩
    · rintro σ HI ⟨l, y3, rfl, rfl, l0, l1, hd⟩
      have e0 : (binS n).drop (S (binS n)).cps.size = [] := List.drop_eq_nil_of_le (Nat.le_refl _)
      rw [e0] at hd
      refine ⟨_, rfl, ?_⟩
      rw [show l = 2 ^ n % (m : Int) from hd]
      exact q _ (Same.refl _)
theorem ok_open_at {f f1 : Addr} {fd fd1 : FuncData} (F : Fun K "open_at" "open_at" s_open_at f fd) (F_power_left : Fun K "power_left" "power_left" s_power_left f1 fd1) (m_power_left : mg "power_left" = some (.ref f1)) (b_power_left : Binds K fd1 ["depth", "many"] []) (T : Txt mg) : GFn P w K mg base CX0 2 f fd ["many", "depth"] spOpenAt := by
  have G_power_left : GFn P w K mg base CX0 1 f1 fd1 ["depth", "many"] spPow := ok_power_left F_power_left T
  refine gfun_ok F sc_open_at (fun vs H Q E h => ?_) (fun cdv A outer s H vs Q E hgu hr h => ?_)
  · obtain ⟨m, n, rfl, _⟩ := h
    rfl
  · obtain ⟨m, n, rfl, m1, m2, hn, q⟩ := h
    have nd := sc_open_at.nd
    refine ⟨_, (pss_one (ps_ret (pe_g G_power_left hgu (hr.mono (by decide)) (by rfl) m_power_left F_power_left.kp b_power_left .nil pass0 (pa_cons (pv 1) (pa_cons (pv 0) pa_nil))))), ?_⟩
    exact ⟨_, rfl, _, rfl, m, n, rfl, m1, m2, hn, q⟩
theorem ok_leaves_at {f f1 : Addr} {fd fd1 : FuncData} (F : Fun K "leaves_at" "leaves_at" s_leaves_at f fd) (F_power_left : Fun K "power_left" "power_left" s_power_left f1 fd1) (m_power_left : mg "power_left" = some (.ref f1)) (b_power_left : Binds K fd1 ["depth", "many"] []) (T : Txt mg) : GFn P w K mg base CX0 2 f fd ["many", "depth"] spLeavesAt := by
  have G_power_left : GFn P w K mg base CX0 1 f1 fd1 ["depth", "many"] spPow := ok_power_left F_power_left T
  refine gfun_ok F sc_leaves_at (fun vs H Q E h => ?_) (fun cdv A outer s H vs Q E hgu hr h => ?_)
  · obtain ⟨m, n, rfl, _⟩ := h
    rfl
  · obtain ⟨m, n, rfl, m1, m2, hn, q⟩ := h
    have nd := sc_leaves_at.nd
    refine ⟨_, (pss_cons (ps_if (pt_cmpR op_eq (pv 1) pe_int (nomark _)) (pss_one (ps_ret (pe_ifExp (pt_cmpR op_eq (pv 0) pe_int (nomark _)) pe_int pe_int))) pss_nil)
      (pss_one (ps_ret (pe_ifExp (pt_cmpR op_ge (pe_op op_mul pe_int (pe_g G_power_left hgu (hr.mono (by decide)) (by rfl) m_power_left F_power_left.kp b_power_left .nil pass0 (pa_cons (pe_op op_sub (pv 1) pe_int) (pa_cons (pv 0) pa_nil)))) (pv 0) (nomark _)) (pv 0) pe_int)))), ?_⟩
    have mp : (0 : Int) < m := by omega
    refine ⟨_, rfl, rfl, _, rfl, ite2 (fun h1 => ?_) (fun h1 => ?_)⟩
    · rw [dec_int, beq_iff_eq] at h1
      have h1 : n = 0 := by omega
      subst h1
      refine ⟨_, rfl, rfl, _, rfl, ite2 (fun h2 => ?_) (fun h2 => ?_)⟩
      · rw [dec_int, beq_iff_eq] at h2
        have z := q H (Same.refl _)
        rw [h2] at z
        exact z
      · rw [dec_int, beq_iff_eq] at h2
        have z := q H (Same.refl _)
        have e : leavesOf m (2 ^ 0) = 0 := by
          unfold leavesOf
          rw [show (2 : Int) ^ 0 = 1 from rfl, Int.ediv_eq_zero_of_lt (by omega) (by omega)]
          rfl
        rw [e] at z
        exact z
    · rw [dec_int, beq_iff_eq] at h1
      obtain ⟨k, rfl⟩ : ∃ k, n = k + 1 := ⟨n - 1, by omega⟩
      refine ⟨_, rfl, _, _, rfl, rfl, _, rfl, m, k, ?_, m1, m2, by omega, fun H2 s2 => ?_⟩
      · show [V.int (((k + 1 : Nat) : Int) - 1), V.int m] = _
        rw [show ((k + 1 : Nat) : Int) - 1 = k by omega]
      · have z := q H2 s2
        have l2 := leaves_double (pw := 2 ^ k) mp
        have h0 := Int.emod_nonneg (2 * 2 ^ k) (show (m : Int) ≠ 0 by omega)
        have h1 := Int.emod_lt_of_pos (2 * 2 ^ k) mp
        rw [Int.pow_succ, Int.mul_comm _ 2] at z
        have lv2 : leavesOf m (2 * 2 ^ k) = m ∨ leavesOf m (2 * 2 ^ k) = 0 := by
          unfold leavesOf
          split
          · exact .inl rfl
          · exact .inr rfl
        generalize (2 : Int) ^ k % m = u at l2 ⊢
        generalize leavesOf m (2 * 2 ^ k) = y at l2 lv2 z
        refine ⟨_, _, rfl, rfl, .inl ⟨by decide, by decide⟩, _, rfl, _, _, rfl, rfl, _, rfl, ite2 (fun h2 => ?_) (fun h2 => ?_)⟩
        · have h2 := of_decide_eq_true h2
          have e : y = m := by
            rcases lv2 with e | e <;> omega
          rw [e] at z
          exact ⟨_, rfl, z⟩
        · have h2 : ¬ ((m : Int) ≤ 2 * u) := fun z => h2 (decide_eq_true z)
          have e : y = 0 := by
            rcases lv2 with e | e <;> omega
          rw [e] at z
          exact z
end
end SG

/-! xs[-2::-1]: all but the last one, backward. -/
namespace SG
open PySem PySem.Spec PyProof.Rows L2
theorem all_but {α : Type} (xs : Array α) (n : Nat) (h : n ≤ xs.size) : (List.range n).filterMap (xs[·]?) = xs.toList.take n := by
  have z := pick_run xs 0 n
  have e : (List.range n).map (0 + ·) = List.range n := by
    rw [show ((0 + ·) : Nat → Nat) = id from funext fun k => Nat.zero_add k, List.map_id]
  rw [e, List.drop_zero] at z
  exact z
theorem but_pick (items : Array Value) (h : 1 ≤ items.size) : slicePick items (some (-2)) none (some (-1)) = items.toList.dropLast.reverse.toArray := by
  have b : sliceBounds (some (-2)) none (some (-1)) items.size = (((items.size - 1 : Nat) : Int) - 1, -1, -1) := by
    unfold sliceBounds
    have e1 : ¬ ((-1 : Int) > 0) := by decide
    have e2 : ((-2 : Int) < 0) := by decide
    simp only [Option.getD_some, e1, e2, if_true, if_false, Prod.mk.injEq, and_true]
    omega
  unfold slicePick
  rw [b]
  show ((sliceRange (((items.size - 1 : Nat) : Int) - 1) (-1) (-1)).filterMap (items[·]?)).toArray = _
  rw [PySem.W.krv_sliceRange, PySem.W.krv_range, List.filterMap_reverse, all_but _ _ (by omega), List.dropLast_eq_take, Array.length_toList]
def tBut (K : PySem.W.Frag) (te : TE) : TE := fun σ H Q => te σ H fun x H1 => ∃ a xs, x = .ref a ∧ SqL K H1 a xs ∧ xs ≠ [] ∧ ∀ p, H1 p = none → Q (.ref p) (upd H1 p (.lst xs.dropLast.reverse))
section
variable {X : Cx} {K : PySem.W.Frag}
theorem k_but {e : Expr} {te : TE} {k k2 : Nat} {p1 p2 p3 p4 p5 pos : Pos} (he : PE X e te) (eK : X.K = K := by rfl) : PE X (.Subscript e (.Slice (some (.UnaryOp .USub (.Constant (.int 2) k2 p4) p5)) none (some (.UnaryOp .USub (.Constant (.int 1) k p1) p2)) p3) pos) (tBut K te) := by
  subst eK
  refine ⟨fun pins s σ H Q I h => ?_⟩
  refine Subscript_ (thn (he.run pins s σ H _ I h) fun v s1 ⟨x, H1, I1, r1, q1⟩ => ?_)
  obtain ⟨a, xs, ex, hx, hne, q⟩ := q1
  subst ex
  cases r1
  have hst : PO X (some (.UnaryOp .USub (.Constant (.int 1) k p1) p2)) (tPart (tUn (rU fun i => .int (-i)) (tC (.int 1)))) := po_some (pe_un un_neg pe_int)
  have hlo : PO X (some (.UnaryOp .USub (.Constant (.int 2) k2 p4) p5)) (tPart (tUn (rU fun i => .int (-i)) (tC (.int 2)))) := po_some (pe_un un_neg pe_int)
  refine wpAny_Slice (thn (hlo.run pins s1 σ H1 (fun o H2 => o = some (-2) ∧ H2 = H1) I1 ⟨2, rfl, -2, rfl, rfl, rfl⟩) fun vl s2 ⟨l, H2, I2, pl, el, e2⟩ => ?_)
  subst el e2
  refine thn (po_none.run pins s2 σ H2 (fun o H3 => o = none ∧ H3 = H2) I2 ⟨rfl, rfl⟩) fun vu s3 ⟨u, H3, I3, pu, eu, e3⟩ => ?_
  subst eu e3
  refine thn (hst.run pins s3 σ H3 (fun o H4 => o = some (-1) ∧ H4 = H3) I3 ⟨1, rfl, -1, rfl, rfl, rfl⟩) fun vs s4 ⟨o, H4, I4, ps, eo, e4⟩ => ?_
  subst eo e4
  have I5 : Inv X pins σ H4 { s4 with heap := s4.heap.push { cls := .type "slice", data := .fields #[vl, vu, vs] } } := I4.kept (t' := s4.toks) fun b ob q => Heap.get?_push_of_some _ q
  obtain ⟨its, r, ht, hz⟩ := I5.list hx
  have hlen := r.length
  have hpos : 0 < xs.length := List.length_pos_iff.mpr hne
  show wpAny (model X.prog X.w) X.A (subscriptTail e (.Slice (some (.UnaryOp .USub (.Constant (.int 2) k2 p4) p5)) none (some (.UnaryOp .USub (.Constant (.int 1) k p1) p2)) p3) (.ref a) (.ref s4.heap.objs.size)) (EP X pins σ Q) X.xe { s4 with heap := s4.heap.push { cls := .type "slice", data := .fields #[vl, vu, vs] } }
  refine tail_any (ops := [.ref a, .ref s4.heap.objs.size]) ht.isList.typeIs (PySem.slot_list_getitem.lookup) ?_ (by with_unfolding_all rfl)
  refine wpAny_getItem_list_slice ht.isList (Heap.IsSliceOf.new _ vl vu vs) pl pu ps (by decide) ?_ (by rw [List.size_toArray]; omega)
  rw [but_pick _ (by rw [List.size_toArray]; omega)]
  have rd : Vals xs.dropLast its.dropLast := by
    rw [List.dropLast_eq_take, List.dropLast_eq_take, hlen]
    exact r.take _
  refine ⟨.ref _, _, I5.laid (t' := s4.toks) (o := .lst xs.dropLast.reverse) (fun b ob q => Heap.get?_push_of_some _ q) (Nat.le_refl _) ?_, rfl, q _ (I5.hok.fresh (Nat.le_refl _))⟩
  exact ⟨by rw [List.length_reverse, List.length_dropLast]; omega, _, 0, rd.reverse, Heap.get?_push_size _ rfl⟩
end
end SG

/-! Rows that draw a thing; sums of leaves and of open places; the mean of twice as many. -/
namespace SG
theorem pow2_lv {m : Int} (hm : 0 < m) (k : Nat) : 2 * pow2 m k = pow2 m (k + 1) + leavesOf m (2 ^ (k + 1)) ∧ (leavesOf m (2 ^ (k + 1)) = m ∧ m ≤ 2 * pow2 m k ∨ leavesOf m (2 ^ (k + 1)) = 0 ∧ 2 * pow2 m k < m) := by
  have z := leaves_double (pw := 2 ^ k) hm
  rw [pow2_succ]
  have h0 : 0 ≤ pow2 m k := Int.emod_nonneg _ (by omega)
  have h1 : pow2 m k < m := Int.emod_lt_of_pos _ hm
  have e2 : (2 : Int) ^ (k + 1) = 2 * 2 ^ k := by rw [Int.pow_succ, Int.mul_comm]
  have lv : leavesOf m (2 ^ (k + 1)) = m ∧ 2 ^ (k + 1) / m % 2 = 1 ∨ leavesOf m (2 ^ (k + 1)) = 0 ∧ 2 ^ (k + 1) / m % 2 ≠ 1 := by
    unfold leavesOf
    split
    · exact .inl ⟨rfl, by assumption⟩
    · exact .inr ⟨rfl, by assumption⟩
  -- the quotient is even ahead of that
  have hq : 2 ^ (k + 1) = m * (2 * (2 ^ k / m)) + 2 * pow2 m k := by
    have a := Int.mul_ediv_add_emod (2 ^ k) m
    unfold pow2
    rw [e2]
    have : m * (2 * (2 ^ k / m)) = 2 * (m * (2 ^ k / m)) := by grind
    omega
  have hd : 2 ^ (k + 1) / m = 2 * (2 ^ k / m) + 2 * pow2 m k / m := by
    rw [hq, Int.add_comm, Int.add_mul_ediv_left _ _ (by omega)]
    omega
  by_cases c : m ≤ 2 * pow2 m k
  · have d1 : 2 * pow2 m k / m = 1 := by
      refine Int.le_antisymm ?_ ?_
      · exact Int.le_of_lt_add_one (Int.ediv_lt_of_lt_mul hm (by omega))
      · exact (Int.le_ediv_iff_mul_le hm).mpr (by omega)
    have r1 : 2 * pow2 m k % m = 2 * pow2 m k - m := by
      have := Int.mul_ediv_add_emod (2 * pow2 m k) m
      rw [d1] at this
      omega
    rw [d1] at hd
    rcases lv with ⟨l, p⟩ | ⟨l, p⟩
    · exact ⟨by rw [r1, l]; omega, .inl ⟨l, c⟩⟩
    · exact absurd (by omega) p
  · have d1 : 2 * pow2 m k / m = 0 := Int.ediv_eq_zero_of_lt (by omega) (by omega)
    have r1 : 2 * pow2 m k % m = 2 * pow2 m k := Int.emod_eq_of_lt (by omega) (by omega)
    rw [d1] at hd
    rcases lv with ⟨l, p⟩ | ⟨l, p⟩
    · exact absurd p (by omega)
    · exact ⟨by rw [r1, l]; omega, .inr ⟨l, by omega⟩⟩
/-- the tosses that lead to a place, the last one first -/
def rowR (lv : Nat → Int) : Nat → Int → List Int
  | 0, _ => []
  | j + 1, x => (x % 2) :: rowR lv j (x / 2 + lv j)
theorem rowR_len (lv : Nat → Int) : ∀ (j : Nat) (x : Int), (rowR lv j x).length = j
  | 0, _ => rfl
  | j + 1, x => by rw [rowR, List.length_cons, rowR_len]
theorem rowR_bits (lv : Nat → Int) : ∀ (j : Nat) (x : Int), ∀ b ∈ rowR lv j x, b = 0 ∨ b = 1
  | 0, _, b, h => by cases h
  | j + 1, x, b, h => by
    rcases List.mem_cons.mp h with rfl | h
    · omega
    · exact rowR_bits lv j _ b h
abbrev lvs (m : Int) (d : Nat) : Int := leavesOf m (2 ^ d)
theorem row_to_open {m : Int} (hm : 1 < m) : ∀ (j : Nat) (q : Int) (rest : List Int), 0 ≤ q → q < pow2 m j → drawF m 1 0 0 ((rowR (lvs m) j (q + lvs m j)).reverse ++ rest) = drawF m (pow2 m j) q j rest
  | 0, q, rest, h0, h1 => by
    have e : pow2 m 0 = 1 := Int.emod_eq_of_lt (by decide) hm
    rw [e] at h1 ⊢
    have : q = 0 := by omega
    subst this
    rfl
  | j + 1, q, rest, h0, h1 => by
    obtain ⟨p1, p2⟩ := pow2_lv (m := m) (by omega) j
    have ih := row_to_open hm j ((q + lvs m (j + 1)) / 2) ((q + lvs m (j + 1)) % 2 :: rest)
    have l0 : 0 ≤ lvs m (j + 1) := by rcases p2 with ⟨e, _⟩ | ⟨e, _⟩ <;> (unfold lvs; omega)
    have up : q + lvs m (j + 1) < 2 * pow2 m j := by unfold lvs; omega
    rw [show rowR (lvs m) (j + 1) (q + lvs m (j + 1)) = ((q + lvs m (j + 1)) % 2) :: rowR (lvs m) j ((q + lvs m (j + 1)) / 2 + lvs m j) from rfl, List.reverse_cons, List.append_assoc, List.singleton_append]
    rw [ih (by omega) (by omega)]
    show (if m ≤ 2 * pow2 m j then _ else _) = _
    generalize hx : q + lvs m (j + 1) = x at up ⊢
    have ex : 2 * (x / 2) + x % 2 = x := Int.mul_ediv_add_emod x 2
    rcases p2 with ⟨e, c⟩ | ⟨e, c⟩
    · rw [if_pos c, ex, if_neg (by unfold lvs at hx; omega)]
      rw [show 2 * pow2 m j - m = pow2 m (j + 1) by omega, show x - m = q by unfold lvs at hx; omega]
      rfl
    · rw [if_neg (by omega), ex]
      rw [show 2 * pow2 m j = pow2 m (j + 1) by omega, show x = q by unfold lvs at hx; omega]
      rfl
/-- the row to a thing draws it -/
theorem row_draws {m x : Int} (hm : 1 < m) {j : Nat} (hl : lvs m (j + 1) = m) (h0 : 0 ≤ x) (h1 : x < m) : drawF m 1 0 0 (rowR (lvs m) (j + 1) x).reverse = .drawn x ((j + 1 : Nat) : Int) := by
  obtain ⟨p1, p2⟩ := pow2_lv (m := m) (by omega) j
  have c : m ≤ 2 * pow2 m j := by
    rcases p2 with ⟨_, c⟩ | ⟨e, _⟩
    · exact c
    · unfold lvs at hl
      omega
  rw [show rowR (lvs m) (j + 1) x = (x % 2) :: rowR (lvs m) j (x / 2 + lvs m j) from rfl, List.reverse_cons, row_to_open hm j _ _ (by omega) (by omega)]
  show (if m ≤ 2 * pow2 m j then (if 2 * (x / 2) + x % 2 < m then Out.drawn (2 * (x / 2) + x % 2) ((j : Int) + 1) else _) else _) = _
  rw [if_pos c, Int.mul_ediv_add_emod x 2, if_pos h1]
  rfl
/-- all but its last toss leaves it open -/
theorem row_ahead {m x : Int} (hm : 1 < m) {j : Nat} (hl : lvs m (j + 1) = m) (h0 : 0 ≤ x) (h1 : x < m) : drawF m 1 0 0 (rowR (lvs m) (j + 1) x).reverse.dropLast = .opened (pow2 m j) (x / 2) := by
  obtain ⟨p1, p2⟩ := pow2_lv (m := m) (by omega) j
  have c : m ≤ 2 * pow2 m j := by
    rcases p2 with ⟨_, c⟩ | ⟨e, _⟩
    · exact c
    · unfold lvs at hl
      omega
  rw [show rowR (lvs m) (j + 1) x = (x % 2) :: rowR (lvs m) j (x / 2 + lvs m j) from rfl, List.reverse_cons, List.dropLast_concat]
  have z := row_to_open hm j (x / 2) [] (by omega) (by omega)
  rw [List.append_nil] at z
  exact z
/-! ### sums -/
/-- depths with leaves -/
def deps (m : Int) (n : Nat) : List Nat := (List.range n).filter fun d => decide ((2 : Int) ^ d / m % 2 = 1)
theorem deps_succ (m : Int) (n : Nat) : deps m (n + 1) = deps m n ++ if (2 : Int) ^ n / m % 2 = 1 then [n] else [] := by
  unfold deps
  rw [List.range_succ, List.filter_append]
  congr 1
  by_cases h : (2 : Int) ^ n / m % 2 = 1
  · simp [h]
  · simp [h]
theorem deps_lt {m : Int} {n d : Nat} (h : d ∈ deps m n) : d < n := by
  unfold deps at h
  simpa using (List.mem_filter.mp h).1
theorem deps_len (m : Int) (n : Nat) : (deps m n).length ≤ n := by
  unfold deps
  exact Nat.le_trans (List.length_filter_le _ _) (by simp)
theorem pow_half {m : Int} (hm : 0 < m) (L : Nat) : (2 : Int) ^ (L + 1) / m = 2 * (2 ^ L / m) + (2 : Int) ^ (L + 1) / m % 2 := by
  have e : (2 : Int) ^ (L + 1) / m / 2 = 2 ^ L / m := by
    rw [Int.ediv_ediv_of_nonneg (Int.le_of_lt hm), Int.pow_succ, Int.mul_comm m 2, Int.mul_comm (2 ^ L) 2, Int.mul_ediv_mul_of_pos _ _ (by decide)]
  omega
theorem deps_sum {m : Int} (hm : 0 < m) : ∀ L : Nat, ((deps m (L + 1)).map fun d => (2 : Int) ^ (L - d)).sum = 2 ^ L / m
  | 0 => by
    rw [deps_succ]
    show (([] ++ if (2 : Int) ^ 0 / m % 2 = 1 then [0] else []).map _).sum = _
    rw [List.nil_append]
    have a : (1 : Int) / m = 0 ∨ (1 : Int) / m = 1 := by
      have := Int.ediv_le_self m (show (0 : Int) ≤ 1 by decide)
      have := Int.ediv_nonneg (show (0 : Int) ≤ 1 by decide) (Int.le_of_lt hm)
      omega
    rw [show (2 : Int) ^ 0 = 1 from rfl]
    rcases a with e | e
    · rw [e, if_neg (by decide)]
      rfl
    · rw [e, if_pos (by decide)]
      rfl
  | L + 1 => by
    have ih := deps_sum hm L
    rw [deps_succ, List.map_append, List.sum_append]
    have e : (deps m (L + 1)).map (fun d => (2 : Int) ^ (L + 1 - d)) = ((deps m (L + 1)).map fun d => (2 : Int) ^ (L - d)).map (2 * ·) := by
      rw [List.map_map]
      refine List.map_congr_left fun d hd => ?_
      have := deps_lt hd
      show (2 : Int) ^ (L + 1 - d) = 2 * 2 ^ (L - d)
      rw [show L + 1 - d = (L - d) + 1 by omega, Int.pow_succ, Int.mul_comm]
    have ph := pow_half hm L
    have md := Int.emod_nonneg ((2 : Int) ^ (L + 1) / m) (show (2 : Int) ≠ 0 by decide)
    have md2 := Int.emod_lt_of_pos ((2 : Int) ^ (L + 1) / m) (show (0 : Int) < 2 by decide)
    rw [e, sum_scaled, ih]
    by_cases h : (2 : Int) ^ (L + 1) / m % 2 = 1
    · rw [if_pos h, List.map_singleton, Nat.sub_self, show ([(2 : Int) ^ 0]).sum = 1 from rfl]
      omega
    · rw [if_neg h, List.map_nil, List.sum_nil]
      omega
/-- leaves of all depths, and what is open -/
def leafSum (m : Int) (f : Nat → Int) (L : Nat) : Int := ((List.range (L + 1)).map fun d => leavesOf m (2 ^ d) * f d * 2 ^ (L - d)).sum
theorem leafSum_succ (m : Int) (f : Nat → Int) (L : Nat) : leafSum m f (L + 1) = 2 * leafSum m f L + leavesOf m (2 ^ (L + 1)) * f (L + 1) := by
  unfold leafSum
  rw [List.range_succ, List.map_append, List.sum_append]
  have e : (List.range (L + 1)).map (fun d => leavesOf m (2 ^ d) * f d * 2 ^ (L + 1 - d)) = ((List.range (L + 1)).map fun d => leavesOf m (2 ^ d) * f d * 2 ^ (L - d)).map (2 * ·) := by
    rw [List.map_map]
    refine List.map_congr_left fun d hd => ?_
    have : d < L + 1 := List.mem_range.mp hd
    show leavesOf m (2 ^ d) * f d * 2 ^ (L + 1 - d) = 2 * (leavesOf m (2 ^ d) * f d * 2 ^ (L - d))
    rw [show L + 1 - d = (L - d) + 1 by omega, Int.pow_succ]
    grind
  rw [e, sum_scaled]
  simp
theorem leaves_zero {m : Int} (hm : 0 < m) : leavesOf m (2 ^ 0) + pow2 m 0 = 1 := by
  unfold leavesOf pow2
  rw [show (2 : Int) ^ 0 = 1 from rfl]
  by_cases h : m = 1
  · subst h
    rfl
  · rw [Int.ediv_eq_zero_of_lt (by decide) (by omega), Int.emod_eq_of_lt (a := 1) (b := m) (by decide) (by omega)]
    rfl
theorem leaf_all {m : Int} (hm : 0 < m) : ∀ L : Nat, leafSum m (fun _ => 1) L + pow2 m L = 2 ^ L
  | 0 => by
    have z := leaves_zero hm
    show ([leavesOf m (2 ^ 0) * 1 * 2 ^ 0]).sum + pow2 m 0 = 1
    simp at z ⊢
    omega
  | L + 1 => by
    have ih := leaf_all hm L
    have p := (pow2_lv hm L).1
    have z : leafSum m (fun _ => 1) (L + 1) = 2 * leafSum m (fun _ => 1) L + leavesOf m (2 ^ (L + 1)) * 1 := leafSum_succ m _ L
    have e2 : (2 : Int) ^ (L + 1) = 2 ^ L * 2 := Int.pow_succ ..
    generalize leavesOf m (2 ^ (L + 1)) = y at p z
    omega
theorem leaf_lengths {m : Int} (hm : 0 < m) : ∀ L : Nat, leafSum m (fun d => (d : Int)) L + pow2 m L * ((L : Int) + 1) = weighed (opensTo (pow2 m) (L + 1))
  | 0 => by
    show ([leavesOf m (2 ^ 0) * ((0 : Nat) : Int) * 2 ^ 0]).sum + pow2 m 0 * (((0 : Nat) : Int) + 1) = weighed [pow2 m 0]
    have e : weighed [pow2 m 0] = 2 * 0 + pow2 m 0 := rfl
    rw [e]
    simp
  | L + 1 => by
    have ih := leaf_lengths hm L
    have p := (pow2_lv hm L).1
    have e : opensTo (pow2 m) (L + 1 + 1) = opensTo (pow2 m) (L + 1) ++ [pow2 m (L + 1)] := by
      unfold opensTo
      rw [List.range_succ, List.map_append]
      rfl
    rw [leafSum_succ, e, weighed_snoc, ← ih]
    have c : ((L + 1 : Nat) : Int) = (L : Int) + 1 := by omega
    rw [c]
    generalize leavesOf m (2 ^ (L + 1)) = y at p ⊢
    generalize leafSum m (fun d => (d : Int)) L = Z
    have hp : y = 2 * pow2 m L - pow2 m (L + 1) := by omega
    rw [hp]
    grind
end SG

/-! The mean beside its first terms, and of twice as many. -/
namespace SG
def WN (o : Nat → Int) (N : Nat) : Int := weighed (opensTo o N)
theorem WN_succ (o : Nat → Int) (N : Nat) : WN o (N + 1) = 2 * WN o N + o N := by
  unfold WN opensTo
  rw [List.range_succ, List.map_append]
  exact weighed_snoc _ _
theorem weighed_app : ∀ (a b : List Int), weighed (a ++ b) = 2 ^ b.length * weighed a + weighed b := by
  have key : ∀ (r a : List Int), weighed (a ++ r.reverse) = 2 ^ r.length * weighed a + weighed r.reverse := by
    intro r
    induction r with
    | nil => intro a; simp [weighed]
    | cons x r ih =>
      intro a
      rw [List.reverse_cons, ← List.append_assoc, weighed_snoc, ih, weighed_snoc, List.length_cons, Int.pow_succ]
      grind
  intro a b
  have z := key b.reverse a
  rw [List.reverse_reverse, List.length_reverse] at z
  exact z
theorem top_is {o : Nat → Int} {i n : Nat} (h : i < n) : topM o i n = 2 * (WN o n - WN o i) := by
  have e1 : (opensTo o n).take i = opensTo o i := by
    unfold opensTo
    rw [← List.map_take, List.take_range, Nat.min_eq_left (by omega)]
  have e2 := weighed_app ((opensTo o n).take i) ((opensTo o n).drop i)
  rw [List.take_append_drop] at e2
  have l : ((opensTo o n).drop i).length = n - i := by rw [List.length_drop]; simp [opensTo]
  rw [l, e1] at e2
  unfold topM WN
  rw [e1, e2]
  grind
theorem bot_is {i n : Nat} (h : i < n) : botM i n = 2 ^ n - 2 ^ i := by
  unfold botM
  have e : (2 : Int) ^ n = 2 ^ (n - i) * 2 ^ i := by rw [← Int.pow_add, show n - i + i = n by omega]
  rw [e]
  grind
theorem bot_pos {i n : Nat} (h : i < n) : 0 < botM i n := by
  rw [bot_is h]
  have : (2 : Nat) ^ i < 2 ^ n := Nat.pow_lt_pow_right (by decide) h
  have : (2 : Int) ^ i < 2 ^ n := by exact_mod_cast this
  omega
theorem ahead_nn {o : Nat → Int} (ho : ∀ k, 0 ≤ o k) (N : Nat) : ∀ c : Nat, 2 ^ c * WN o N ≤ WN o (N + c)
  | 0 => by simp
  | c + 1 => by
    have ih := ahead_nn ho N c
    have z := ho (N + c)
    rw [show N + (c + 1) = (N + c) + 1 by omega, WN_succ, Int.pow_succ]
    have : (2 : Int) ^ c * 2 * WN o N = 2 * (2 ^ c * WN o N) := by grind
    omega
/-- the first terms weigh no more than all of them -/
theorem mean_ahead {o : Nat → Int} {i c : Nat} (ho : ∀ k, 0 ≤ o k) (hc : 0 < c) (hp : ∀ k, i ≤ k → o (k + c) = o k) : ∀ N : Nat, WN o N * (2 ^ (i + c) - 2 ^ i) ≤ (WN o (i + c) - WN o i) * 2 ^ N := by
  have up : ∀ t : Nat, (WN o (i + c) - WN o i) * 2 ^ (i + t) - WN o (i + t) * (2 ^ (i + c) - 2 ^ i) = 2 ^ i * (WN o (i + t + c) - 2 ^ c * WN o (i + t)) := by
    intro t
    induction t with
    | zero =>
      rw [Nat.add_zero, Int.pow_add 2 i c]
      grind
    | succ t ih =>
      have e1 : WN o (i + (t + 1)) = 2 * WN o (i + t) + o (i + t) := WN_succ o (i + t)
      have e2 : WN o (i + (t + 1) + c) = 2 * WN o (i + t + c) + o (i + t + c) := by rw [show i + (t + 1) + c = (i + t + c) + 1 by omega]; exact WN_succ o _
      have e3 : (2 : Int) ^ (i + (t + 1)) = 2 ^ (i + t) * 2 := Int.pow_succ ..
      have e4 : (2 : Int) ^ (i + c) = 2 ^ i * 2 ^ c := Int.pow_add ..
      rw [e1, e2, e3, hp (i + t) (by omega)]
      rw [e4] at ih ⊢
      generalize WN o (i + t) = A at ih ⊢
      generalize WN o (i + t + c) = B at ih ⊢
      generalize (2 : Int) ^ (i + t) = p at ih ⊢
      grind
  have pos : (0 : Int) < 2 ^ i := Int.pow_pos (by decide)
  have far : ∀ t : Nat, WN o (i + t) * (2 ^ (i + c) - 2 ^ i) ≤ (WN o (i + c) - WN o i) * 2 ^ (i + t) := by
    intro t
    have a := up t
    have b := ahead_nn ho (i + t) c
    have d : 0 ≤ (2 : Int) ^ i * (WN o (i + t + c) - 2 ^ c * WN o (i + t)) := Int.mul_nonneg (Int.le_of_lt pos) (by omega)
    omega
  have bp : (0 : Int) ≤ 2 ^ (i + c) - 2 ^ i := by
    have := bot_pos (show i < i + c by omega)
    rw [bot_is (by omega)] at this
    omega
  have down : ∀ t : Nat, ∀ N : Nat, N + t = i → WN o N * (2 ^ (i + c) - 2 ^ i) ≤ (WN o (i + c) - WN o i) * 2 ^ N := by
    intro t
    induction t with
    | zero =>
      intro N hN
      have : N = i := hN
      subst this
      exact far 0
    | succ t ih =>
      intro N hN
      have z := ih (N + 1) (by omega)
      have d : 0 ≤ o N * (2 ^ (i + c) - 2 ^ i) := Int.mul_nonneg (ho N) bp
      rw [WN_succ, Int.pow_succ] at z
      have e1 : (2 * WN o N + o N) * (2 ^ (i + c) - 2 ^ i) = 2 * (WN o N * (2 ^ (i + c) - 2 ^ i)) + o N * (2 ^ (i + c) - 2 ^ i) := by grind
      have e2 : (WN o (i + c) - WN o i) * (2 ^ N * 2) = 2 * ((WN o (i + c) - WN o i) * 2 ^ N) := by grind
      omega
  intro N
  by_cases h : i ≤ N
  · obtain ⟨t, rfl⟩ : ∃ t, N = i + t := ⟨N - i, by omega⟩
    exact far t
  · exact down (i - N) N (by omega)
theorem round_comes {m : Int} {i n : Nat} (h : IsRound (pow2 m) i n) : ∀ k, i ≤ k → pow2 m (k + (n - i)) = pow2 m k := by
  obtain ⟨h1, h2, h3⟩ := h
  intro k hk
  obtain ⟨t, rfl⟩ : ∃ t, k = i + t := ⟨k - i, by omega⟩
  clear hk
  induction t with
  | zero =>
    rw [Nat.add_zero, show i + (n - i) = n by omega]
    exact h2
  | succ t ih =>
    rw [show i + (t + 1) + (n - i) = (i + t + (n - i)) + 1 by omega, pow2_succ, ih, show i + (t + 1) = (i + t) + 1 by omega, pow2_succ]
/-- what the law asks: the weighed lengths are no more than the mean -/
theorem mean_bound {m : Int} (hm : 0 < m) {i n : Nat} (h : IsRound (pow2 m) i n) (L : Nat) :
    ratN (WN (pow2 m) (L + 1)) (2 ^ L) * ratD (topM (pow2 m) i n) (botM i n) ≤ ratN (topM (pow2 m) i n) (botM i n) * ratD (WN (pow2 m) (L + 1)) (2 ^ L) := by
  have h1 : i < n := h.1
  have z := mean_ahead (o := pow2 m) (i := i) (c := n - i) (fun k => (pow2_in hm k).1) (by omega) (round_comes h) (L + 1)
  rw [show i + (n - i) = n by omega, ← bot_is h1, Int.pow_succ] at z
  have zt := top_is (o := pow2 m) h1
  have bp := bot_pos h1
  have pp : (0 : Int) < 2 ^ L := Int.pow_pos (by decide)
  have c1 := rat_cross (WN (pow2 m) (L + 1)) (2 ^ L) (by omega)
  have c2 := rat_cross (topM (pow2 m) i n) (botM i n) (by omega)
  have p1 := ratD_pos (a := WN (pow2 m) (L + 1)) (b := (2 : Int) ^ L) (by omega)
  have p2 := ratD_pos (a := topM (pow2 m) i n) (b := botM i n) (by omega)
  have key : WN (pow2 m) (L + 1) * botM i n ≤ topM (pow2 m) i n * 2 ^ L := by
    have : (WN (pow2 m) n - WN (pow2 m) i) * (2 ^ L * 2) = topM (pow2 m) i n * 2 ^ L := by rw [zt]; grind
    omega
  generalize ratN (WN (pow2 m) (L + 1)) (2 ^ L) = x at c1 ⊢
  generalize ratD (WN (pow2 m) (L + 1)) (2 ^ L) = y at c1 p1 ⊢
  generalize ratN (topM (pow2 m) i n) (botM i n) = u at c2 ⊢
  generalize ratD (topM (pow2 m) i n) (botM i n) = v at c2 p2 ⊢
  generalize WN (pow2 m) (L + 1) = A at c1 key
  generalize topM (pow2 m) i n = T at c2 key
  generalize botM i n = B at c2 key bp
  generalize (2 : Int) ^ L = p at c1 key pp
  -- x / y = A / p ≤ T / B = u / v
  have big : (x * v) * (p * B) ≤ (u * y) * (p * B) := by
    have e1 : (x * v) * (p * B) = (A * B) * (y * v) := by
      have : x * v * (p * B) = (x * p) * (v * B) := by grind
      rw [this, c1]
      grind
    have e2 : (u * y) * (p * B) = (T * p) * (y * v) := by
      have : u * y * (p * B) = (u * B) * (y * p) := by grind
      rw [this, c2]
      grind
    rw [e1, e2]
    exact Int.mul_le_mul_of_nonneg_right key (Int.mul_nonneg (Int.le_of_lt p1) (Int.le_of_lt p2))
  exact Int.le_of_mul_le_mul_right big (Int.mul_pos pp bp)
/-! ### twice as many -/
theorem pow2_dbl {m : Int} (hm : 0 < m) (k : Nat) : pow2 (2 * m) (k + 1) = 2 * pow2 m k := by
  unfold pow2
  rw [Int.pow_succ, Int.mul_comm _ 2, Int.mul_emod_mul_of_pos _ _ (by decide)]
theorem pow2_dbl0 {m : Int} (hm : 0 < m) : pow2 (2 * m) 0 = 1 := Int.emod_eq_of_lt (by decide) (by omega)
theorem round_dbl {m : Int} (hm : 0 < m) {i n : Nat} (h : IsRound (pow2 m) i n) : IsRound (pow2 (2 * m)) (i + 1) (n + 1) := by
  obtain ⟨h1, h2, h3⟩ := h
  refine ⟨by omega, by rw [pow2_dbl hm, pow2_dbl hm, h2], fun a b hab hb => ?_⟩
  obtain ⟨b, rfl⟩ : ∃ c, b = c + 1 := ⟨b - 1, by omega⟩
  rw [pow2_dbl hm]
  rcases a with _ | a
  · rw [pow2_dbl0 hm]
    omega
  · rw [pow2_dbl hm]
    have := h3 a b (by omega) (by omega)
    omega
theorem WN_dbl {m : Int} (hm : 0 < m) : ∀ N : Nat, WN (pow2 (2 * m)) (N + 1) = 2 ^ N + 2 * WN (pow2 m) N
  | 0 => by
    rw [WN_succ, pow2_dbl0 hm]
    rfl
  | N + 1 => by
    have ih := WN_dbl hm N
    rw [WN_succ, ih, pow2_dbl hm, WN_succ (pow2 m) N, Int.pow_succ]
    grind
/-- the mean of twice as many is by 1 greater -/
theorem mean_dbl {m : Int} (hm : 0 < m) {i n : Nat} (h : IsRound (pow2 m) i n) :
    ratN (ratN (topM (pow2 m) i n) (botM i n) + ratD (topM (pow2 m) i n) (botM i n)) (ratD (topM (pow2 m) i n) (botM i n)) = ratN (topM (pow2 (2 * m)) (i + 1) (n + 1)) (botM (i + 1) (n + 1)) ∧
    ratD (ratN (topM (pow2 m) i n) (botM i n) + ratD (topM (pow2 m) i n) (botM i n)) (ratD (topM (pow2 m) i n) (botM i n)) = ratD (topM (pow2 (2 * m)) (i + 1) (n + 1)) (botM (i + 1) (n + 1)) := by
  have h1 : i < n := h.1
  have bp := bot_pos h1
  have bp2 := bot_pos (show i + 1 < n + 1 by omega)
  have et : topM (pow2 (2 * m)) (i + 1) (n + 1) = 2 * (topM (pow2 m) i n + botM i n) := by
    rw [top_is (by omega), WN_dbl hm, WN_dbl hm, top_is h1, bot_is h1]
    grind
  have eb : botM (i + 1) (n + 1) = 2 * botM i n := by
    rw [bot_is h1, bot_is (by omega), Int.pow_succ, Int.pow_succ]
    grind
  have p2 := ratD_pos (a := topM (pow2 m) i n) (b := botM i n) (by omega)
  have c2 := rat_cross (topM (pow2 m) i n) (botM i n) (by omega)
  have c3 := rat_cross (topM (pow2 (2 * m)) (i + 1) (n + 1)) (botM (i + 1) (n + 1)) (by omega)
  refine rat_is (by omega) (rat_red (by omega)) ?_
  rw [et, eb] at c3 ⊢
  generalize ratN (2 * (topM (pow2 m) i n + botM i n)) (2 * botM i n) = x at c3 ⊢
  generalize ratD (2 * (topM (pow2 m) i n + botM i n)) (2 * botM i n) = y at c3 ⊢
  generalize ratN (topM (pow2 m) i n) (botM i n) = u at c2 ⊢
  generalize ratD (topM (pow2 m) i n) (botM i n) = v at c2 p2 ⊢
  generalize topM (pow2 m) i n = T at c2 c3
  generalize botM i n = B at c2 c3 bp
  have e : ((u + v) * y) * B = (x * v) * B := by
    have c4 : x * B = (T + B) * y := by
      have : 2 * (x * B) = 2 * ((T + B) * y) := by
        have a : x * (2 * B) = 2 * (x * B) := by grind
        have b : 2 * (T + B) * y = 2 * ((T + B) * y) := by grind
        omega
      omega
    have : (x * v) * B = (x * B) * v := by grind
    rw [this, c4]
    have : (u + v) * y * B = (u * B) * y + v * y * B := by grind
    rw [this, c2]
    grind
  exact Int.eq_of_mul_eq_mul_right (by omega) e
end SG

namespace SG
open PySem PySem.Spec PyProof.Rows L2 TL
open SX (S S_tl S_len)
section
variable {P : Program} {w : World} {K : PySem.W.Frag} {mg : Str → Option Value} {base : Heap}
theorem deps_one : ∀ n : Nat, deps 1 (n + 1) = [0]
  | 0 => by rfl
  | n + 1 => by
    rw [deps_succ, deps_one n, Int.ediv_one, if_neg ?_]
    · rfl
    · rw [Int.pow_succ]
      omega
/-- the row as a text -/
def rowG (m x : Int) (d : Nat) : List Nat := (rowR (lvs m) d x).reverse.map fun b => (b + 48).toNat
def spRowTo (K : PySem.W.Frag) : Sp := fun vs H Q _ => ∃ (a : Addr) (m x : Int) (d : Nat), vs = [.ref a, .int x] ∧ SqL K H a ((List.range (d + 1)).map fun j => V.int (lvs m j)) ∧ d ≤ 400 ∧ 0 ≤ x ∧ x < 10 ^ 60 ∧ (∀ j, 0 ≤ lvs m j ∧ lvs m j < 10 ^ 60) ∧ ∀ H2, Same H H2 → Q (.str (S (rowG m x d))) H2
theorem ok_rowTo {f : Addr} {fd : FuncData} (F : Fun K "row_to" "row_to" s_row_to f fd) (T : Txt mg) : GFn P w K mg base CX0 1 f fd ["leaves", "place"] (spRowTo K) := by
  refine gfun_ok F sc_row_to (fun vs H Q E h => ?_) (fun cdv A outer s H vs Q E hgu hr h => ?_)
  · obtain ⟨a, m, x, d, rfl, _⟩ := h
    rfl
  · obtain ⟨a, m, x, d, rfl, ha, hd, h0, h1, hlv, q⟩ := h
    have nd := sc_row_to.nd
    refine ⟨_, (pss_cons (ps_set (i := 2) nd rfl (Or.inl rfl) (pe_lst pa_nil))
      (pss_cons (ps_for PassesOwn.never rfl (pi_list (k_but (K := K) (pv 0))) (pg_name (i := 3) nd rfl (Or.inl rfl))
        (pss_cons (ps_expr (pe_bm PySem.F.plainAttrs_list PySem.F.slot_list_append PySem.F.type_list_append mt_append (pv 2) (pa_cons (pe_callTy call_str_int (by rfl) T.str (by decide +kernel) (pa_cons (pe_op op_mod (pv 1) pe_int) pa_nil)) pa_nil)))
      (pss_one (ps_set (i := 1) nd rfl (Or.inl rfl) (pe_op op_add (pe_op op_fdiv (pv 1) pe_int) (pv 3))))))
      (pss_one (ps_ret (k_join (K := K) pe_str (k_rev (K := K) (pv 2))))))), ?_⟩
    refine ⟨Nat.zero_le _, fun p np => ?_⟩
    have s1 : Same H (upd H p (.lst [])) := same_new np
    have hp : upd H p (.lst []) p = some (.lst []) := upd_same
    generalize upd H p (.lst []) = H1 at s1 hp ⊢
    have en : ((List.range (d + 1)).map fun j => V.int (lvs m j)) ≠ [] := by
      intro z
      have := congrArg List.length z
      simp at this
    have ex : ((List.range (d + 1)).map fun j => V.int (lvs m j)).dropLast.reverse = ((List.range d).map fun j => V.int (lvs m j)).reverse := by
      rw [List.range_succ, List.map_append]
      simp
    refine ⟨_, rfl, a, _, rfl, s1.seq ha, en, fun y ny => ?_⟩
    rw [ex]
    have s2 : Same H (upd H1 y (.lst ((List.range d).map fun j => V.int (lvs m j)).reverse)) := s1.trans (same_new ny)
    have py : p ≠ y := ne_of_none hp ny
    have hp2 : upd H1 y (.lst ((List.range d).map fun j => V.int (lvs m j)).reverse) p = some (.lst []) := by rw [upd_ne py]; exact hp
    have hy2 : upd H1 y (.lst ((List.range d).map fun j => V.int (lvs m j)).reverse) y = some (.lst ((List.range d).map fun j => V.int (lvs m j)).reverse) := upd_same
    generalize upd H1 y (.lst ((List.range d).map fun j => V.int (lvs m j)).reverse) = H2 at s2 hp2 hy2 ⊢
    refine ⟨y, rfl, ⟨_, SqL.of hy2⟩, for_list (K := K) (a := y) (xs := ((List.range d).map fun j => V.int (lvs m j)).reverse) (fun t σ HI => ∃ (done : List Int) (xt : Int) (y3 : Option V), σ = [some (.ref a), some (.int xt), some (.ref p), y3] ∧ Same H HI ∧ HI y = some (.lst ((List.range d).map fun j => V.int (lvs m j)).reverse) ∧ HI p = some (.lst (done.map fun b => V.str ⟨#[(b + 48).toNat]⟩)) ∧ done ++ rowR (lvs m) (d - t) xt = rowR (lvs m) d x ∧ done.length = t ∧ 0 ≤ xt ∧ xt < 2 * 10 ^ 60) ⟨[], x, none, rfl, s2, hy2, hp2, rfl, rfl, h0, by omega⟩ (fun t σ HI _ ⟨_, _, _, _, _, hy, _⟩ => SqL.of hy) ?_ ?_⟩
    · rintro t z σ HI hz ⟨done, xt, y3, rfl, sI, hyI, hpI, hrow, hlen, x0, x1⟩
      have ht : t < d := by
        have := (List.getElem?_eq_some_iff.mp hz).1
        simpa using this
      obtain rfl : z = V.int (lvs m (d - 1 - t)) := by
        rw [List.getElem?_reverse (by simpa using ht), List.getElem?_map, List.length_map, List.length_range, List.getElem?_range (by omega)] at hz
        exact (Option.some.inj hz).symm
      obtain ⟨k, hk⟩ : ∃ k, d - t = k + 1 := ⟨d - t - 1, by omega⟩
      have ek : d - 1 - t = k := by omega
      rw [hk] at hrow
      rw [ek]
      have lk := hlv k
      have b01 : xt % 2 = 0 ∨ xt % 2 = 1 := by omega
      have es : (toString (xt % 2) : String) = toString (xt % 2) ∧ Str.ofString (toString (xt % 2)) = ⟨#[(xt % 2 + 48).toNat]⟩ := by
        rcases b01 with e | e <;> rw [e] <;> exact ⟨rfl, by decide +kernel⟩
      refine ⟨_, rfl, .inl ⟨rfl, _, SqL.of hpI⟩, _, rfl, _, _, rfl, rfl, show (0 : Int) < 2 by decide, _, rfl, ?_, ?_⟩
      · rcases b01 with e | e <;> rw [e] <;> decide
      · rw [show (Str.ofString (toString (xt % 2))) = (⟨#[(xt % 2 + 48).toNat]⟩ : Str) from es.2]
        refine ⟨p, _, _, rfl, rfl, hpI, by rw [List.length_map]; exact small1000 (by omega), ?_⟩
        have npH : H p = none := np
        have sJ : Same H (upd HI p (.lst ((done.map fun b => V.str ⟨#[(b + 48).toNat]⟩) ++ [.str ⟨#[(xt % 2 + 48).toNat]⟩]))) := fun b o e => by
          rw [upd_ne (ne_of_none e npH)]
          exact sI _ _ e
        refine ⟨_, rfl, _, _, rfl, rfl, ⟨by decide, by decide⟩, _, rfl, _, _, rfl, rfl, ?_⟩
        refine ⟨done ++ [xt % 2], xt / 2 + lvs m k, _, rfl, sJ, by rw [upd_ne py.symm]; exact hyI, by rw [upd_same, List.map_append]; rfl, ?_, by rw [List.length_append, hlen]; rfl, by omega, by omega⟩
        rw [show d - (t + 1) = k by omega, List.append_assoc]
        exact hrow
    · rintro σ HI ⟨done, xt, y3, rfl, sI, hyI, hpI, hrow, hlen, x0, x1⟩
      rw [List.length_reverse, List.length_map, List.length_range] at hrow hlen
      rw [Nat.sub_self, show rowR (lvs m) 0 xt = [] from rfl, List.append_nil] at hrow
      refine ⟨⟨_, rfl⟩, _, rfl, p, _, rfl, SqL.of hpI, fun r nr => ?_⟩
      have s9 := sI.trans (same_new (o := .lst (done.map fun b => V.str ⟨#[(b + 48).toNat]⟩).reverse) nr)
      have el : (done.map fun b => V.str ⟨#[(b + 48).toNat]⟩).reverse = ((rowG m x d).map fun g => (⟨#[g]⟩ : Str)).map V.str := by
        unfold rowG
        rw [← hrow, ← List.map_reverse, List.map_map, List.map_map]
        rfl
      rw [el] at s9 ⊢
      refine ⟨"", r, _, rfl, rfl, .inl (SqL.of upd_same), ?_, ?_⟩
      · rw [sum_ones]
        simp only [List.length_map]
        have : (rowG m x d).length = d := by unfold rowG; rw [List.length_map, List.length_reverse, rowR_len]
        show (rowG m x d).length + (rowG m x d).length * 0 ≤ _
        rw [this]
        exact Nat.le_trans (by omega : d + d * 0 ≤ 400) (by decide)
      · rw [join_signs]
        exact q _ s9
def spRowsTo (K : PySem.W.Frag) : Sp := fun vs H Q _ => ∃ (m : Nat) (x : Int) (L : Nat), vs = [.int m, .int x, .int L] ∧ 1 ≤ m ∧ m < 10 ^ 60 ∧ 0 ≤ x ∧ x < m ∧ L ≤ 400 ∧
  ∀ (p : Addr) (H2 : Hp), Same H H2 → SqT K H2 p ((deps m (L + 1)).map fun d => V.str (S (rowG m x d))) → Q (.ref p) H2
theorem ok_rowsTo {f f1 : Addr} {fd fd1 : FuncData} (F : Fun K "rows_to" "rows_to" s_rows_to f fd) (F_row_to : Fun K "row_to" "row_to" s_row_to f1 fd1) (m_row_to : mg "row_to" = some (.ref f1)) (b_row_to : Binds K fd1 ["leaves", "place"] []) (T : Txt mg) : GFn P w K mg base CX0 2 f fd ["many", "index", "most"] (spRowsTo K) := by
  have G_row_to : GFn P w K mg base CX0 1 f1 fd1 ["leaves", "place"] (spRowTo K) := ok_rowTo F_row_to T
  refine gfun_ok F sc_rows_to (fun vs H Q E h => ?_) (fun cdv A outer s H vs Q E hgu hr h => ?_)
  · obtain ⟨m, x, L, rfl, _⟩ := h
    rfl
  · obtain ⟨m, x, L, rfl, m1, m2, x0, x1, hL, q⟩ := h
    have nd := sc_rows_to.nd
    refine ⟨_, (pss_cons (ps_if (pt_cmpR op_eq (pv 0) pe_int (nomark _)) (pss_one (ps_ret (pe_tup (pa_cons pe_str pa_nil)))) pss_nil)
      (pss_cons (ps_set (i := 3) nd rfl (Or.inl rfl) (pe_lst pa_nil))
      (pss_cons (ps_set (i := 4) nd rfl (Or.inl rfl) pe_int)
      (pss_cons (ps_set (i := 5) nd rfl (Or.inl rfl) (pe_lst (pa_cons pe_int pa_nil)))
      (pss_cons (ps_for PassesOwn.never rfl (pi_range2 rfl T.range (pa_cons pe_int (pa_cons (pe_op op_add (pv 2) pe_int) pa_nil))) (pg_name (i := 6) nd rfl (Or.inl rfl))
        (pss_cons (ps_set (i := 4) nd rfl (Or.inl rfl) (pe_op op_mul pe_int (pv 4)))
      (pss_cons (ps_expr (pe_bm PySem.F.plainAttrs_list PySem.F.slot_list_append PySem.F.type_list_append mt_append (pv 5) (pa_cons (pe_ifExp (pt_cmpR op_ge (pv 4) (pv 0) (nomark _)) (pv 0) pe_int) pa_nil)))
      (pss_cons (ps_aug (i := 4) nd rfl (Or.inl rfl) (pe_ix (k_ixL (K := K)) (pv 5) (pv 6) (fun _ _ => rfl)) ip_sub)
      (pss_one (ps_if (pt_truth (pe_ix (k_ixL (K := K)) (pv 5) (pv 6) (fun _ _ => rfl)) (by intro _; rfl)) (pss_one (ps_expr (pe_bm PySem.F.plainAttrs_list PySem.F.slot_list_append PySem.F.type_list_append mt_append (pv 3) (pa_cons (pe_g G_row_to hgu (hr.mono (by decide)) (by rfl) m_row_to F_row_to.kp b_row_to .nil pass0 (pa_cons (pv 5) (pa_cons (pv 1) pa_nil))) pa_nil)))) pss_nil))))))
      (pss_one (ps_ret (pe_callTy (k_tupOf (K := K)) (by rfl) T.tuple (by decide +kernel) (pa_cons (pv 3) pa_nil))))))))), ?_⟩
    have mp : (0 : Int) < m := by omega
    refine ⟨_, rfl, rfl, _, rfl, ite2 (fun h1 => ?_) (fun h1 => ?_)⟩
    · rw [dec_int, beq_iff_eq] at h1
      refine ⟨by show 1 ≤ sizeLine; decide, fun z nz => q z _ (same_new nz) (.inl (.inl ?_))⟩
      rw [upd_same, h1, deps_one]
      rfl
    · rw [dec_int, beq_iff_eq] at h1
      have hm : (1 : Int) < m := by omega
      have hlv : ∀ j, 0 ≤ lvs (m : Int) j ∧ lvs (m : Int) j < 10 ^ 60 := fun j => by
        unfold lvs leavesOf
        split <;> omega
      have l0 : lvs (m : Int) 0 = 0 := by
        unfold lvs leavesOf
        rw [show (2 : Int) ^ 0 = 1 from rfl, Int.ediv_eq_zero_of_lt (by decide) hm]
        rfl
      have d1 : deps (m : Int) 1 = [] := by
        rw [show (1 : Nat) = 0 + 1 from rfl, deps_succ, show (2 : Int) ^ 0 = 1 from rfl, Int.ediv_eq_zero_of_lt (by decide) hm]
        rfl
      refine ⟨Nat.zero_le _, fun pt npt => ?_⟩
      have s1 : Same H (upd H pt (.lst [])) := same_new npt
      have ht : upd H pt (.lst []) pt = some (.lst []) := upd_same
      generalize upd H pt (.lst []) = H1 at s1 ht ⊢
      refine ⟨by show 1 ≤ sizeLine; decide, fun pl npl => ?_⟩
      have s2 : Same H (upd H1 pl (.lst [.int 0])) := s1.trans (same_new npl)
      have tl_ : pt ≠ pl := ne_of_none ht npl
      have ht2 : upd H1 pl (.lst [.int 0]) pt = some (.lst []) := by rw [upd_ne tl_]; exact ht
      have hl2 : upd H1 pl (.lst [.int 0]) pl = some (.lst [.int 0]) := upd_same
      have npl0 : H pl = none := by
        rcases e : H pl with _ | o
        · rfl
        · have := s1 _ _ e
          rw [npl] at this
          cases this
      generalize upd H1 pl (.lst [.int 0]) = H2 at s2 ht2 hl2 ⊢
      refine ⟨_, rfl, _, _, rfl, rfl, 1, _, rfl, ⟨by decide, by decide, by omega, by omega⟩, ?_⟩
      rw [show ((L : Int) + 1 - 1).toNat = L by omega]
      refine for_range (lo := 1) (n := L) (fun t σ HI => ∃ (y6 : Option V), σ = [some (.int m), some (.int x), some (.int L), some (.ref pt), some (.int (pow2 m t)), some (.ref pl), y6] ∧ Same H HI ∧ HI pt = some (.lst ((deps (m : Int) (t + 1)).map fun d => V.str (S (rowG m x d)))) ∧ HI pl = some (.lst ((List.range (t + 1)).map fun j => V.int (lvs m j)))) ⟨none, ?_, s2, by rw [d1]; exact ht2, ?_⟩ ?_ ?_
      · rw [show pow2 (m : Int) 0 = 1 from Int.emod_eq_of_lt (by decide) hm]
        rfl
      · rw [hl2, show List.range (0 + 1) = [0] from rfl, List.map_singleton, l0]
      · rintro t σ HI hi ⟨y6, rfl, sI, htI, hlI⟩
        obtain ⟨p1, p2⟩ := pow2_lv mp t
        refine ⟨_, rfl, _, _, rfl, rfl, .inl ⟨by decide, by decide⟩, ?_⟩
        refine ⟨_, rfl, .inl ⟨rfl, _, SqL.of hlI⟩, ?_⟩
        -- what is put behind the leaves
        have app : ∀ (R : VK), R (.int (leavesOf m (2 ^ (t + 1)))) HI → tIf (tTest (tOp (rI0 fun i j => V.bl (decide (i ≥ j))) (tVar 4) (tVar 0))) (tVar 0) (tC (V.int 0)) [some (V.int m), some (.int x), some (.int L), some (.ref pt), some (.int (2 * pow2 m t)), some (.ref pl), some (V.int (1 + t))] HI R := fun R hR => by
          refine ⟨_, rfl, _, rfl, _, _, rfl, rfl, _, rfl, ite2 (fun h => ?_) (fun h => ?_)⟩
          · have h := of_decide_eq_true h
            rcases p2 with ⟨e, c⟩ | ⟨e, c⟩
            · rw [e] at hR
              exact ⟨_, rfl, hR⟩
            · omega
          · have h : ¬ (2 * pow2 (m : Int) t ≥ m) := fun z => h (decide_eq_true z)
            rcases p2 with ⟨e, c⟩ | ⟨e, c⟩
            · omega
            · rw [e] at hR
              exact hR
        refine app _ ?_
        refine ⟨pl, _, _, rfl, rfl, hlI, by rw [List.length_map, List.length_range]; exact small1000 (by omega), ?_⟩
        have el : ((List.range (t + 1)).map fun j => V.int (lvs m j)) ++ [V.int (leavesOf m (2 ^ (t + 1)))] = (List.range (t + 1 + 1)).map fun j => V.int (lvs m j) := by
          rw [List.range_succ (n := t + 1), List.map_append]
          rfl
        rw [el]
        have sJ : Same H (upd HI pl (.lst ((List.range (t + 1 + 1)).map fun j => V.int (lvs m j)))) := fun b o e => by
          rw [upd_ne (ne_of_none e npl0)]
          exact sI _ _ e
        have htJ : upd HI pl (.lst ((List.range (t + 1 + 1)).map fun j => V.int (lvs m j))) pt = some (.lst ((deps (m : Int) (t + 1)).map fun d => V.str (S (rowG m x d)))) := by rw [upd_ne tl_]; exact htI
        have hlJ : upd HI pl (.lst ((List.range (t + 1 + 1)).map fun j => V.int (lvs m j))) pl = some (.lst ((List.range (t + 1 + 1)).map fun j => V.int (lvs m j))) := upd_same
        generalize upd HI pl (.lst ((List.range (t + 1 + 1)).map fun j => V.int (lvs m j))) = HJ at sJ htJ hlJ ⊢
        have at_ : atI ((List.range (t + 1 + 1)).map fun j => V.int (lvs m j)) (1 + (t : Int)) = some (.int (lvs m (t + 1))) := by
          rw [show (1 + (t : Int)) = ((t + 1 : Nat) : Int) by omega]
          refine atI_nat ?_
          rw [List.getElem?_map, List.getElem?_range (by omega)]
          rfl
        refine ⟨_, rfl, _, rfl, _, rfl, pl, _, _, _, rfl, rfl, SqL.of hlJ, at_, _, _, rfl, rfl, ?_⟩
        refine ⟨_, rfl, _, rfl, pl, _, _, _, rfl, rfl, SqL.of hlJ, at_, _, rfl, ?_⟩
        have ep : 2 * pow2 (m : Int) t - lvs (m : Int) (t + 1) = pow2 m (t + 1) := by unfold lvs; omega
        have bit : lvs (m : Int) (t + 1) ≠ 0 ↔ (2 : Int) ^ (t + 1) / m % 2 = 1 := by
          unfold lvs leavesOf
          split
          · exact ⟨fun _ => by assumption, fun _ => by omega⟩
          · exact ⟨fun z => absurd rfl z, fun z => absurd z (by assumption)⟩
        refine ite2 (fun h => ?_) (fun h => ?_)
        · have h : lvs (m : Int) (t + 1) ≠ 0 := by simpa using h
          refine ⟨_, rfl, .inl ⟨rfl, _, SqL.of htJ⟩, _, rfl, _, rfl, pl, m, x, t + 1, rfl, SqL.of hlJ, by omega, x0, by omega, hlv, fun H4 s4 => ⟨pt, _, _, rfl, rfl, s4 _ _ htJ, by rw [List.length_map]; exact small1000 (by have := deps_len (m : Int) (t + 1); omega), ?_⟩⟩
          have ed : ((deps (m : Int) (t + 1)).map fun d => V.str (S (rowG m x d))) ++ [V.str (S (rowG m x (t + 1)))] = (deps (m : Int) (t + 1 + 1)).map fun d => V.str (S (rowG m x d)) := by
            rw [deps_succ (m : Int) (t + 1), if_pos (bit.mp h), List.map_append]
            rfl
          rw [ed]
          refine ⟨_, by rw [← ep]; rfl, fun b o e => ?_, upd_same, by rw [upd_ne tl_.symm]; exact s4 _ _ hlJ⟩
          rw [upd_ne (ne_of_none e npt)]
          exact s4 _ _ (sJ _ _ e)
        · have h : ¬ (lvs (m : Int) (t + 1) ≠ 0) := by simpa using h
          refine ⟨_, by rw [← ep]; rfl, sJ, ?_, hlJ⟩
          rw [deps_succ (m : Int) (t + 1), if_neg (fun z => h (bit.mpr z)), List.append_nil]
          exact htJ
      · rintro σ HI ⟨y6, rfl, sI, htI, hlI⟩
        refine ⟨_, rfl, pt, _, rfl, .inl ⟨SqL.of htI, fun z nz => ?_⟩⟩
        exact q z _ (sI.trans (same_new nz)) (.inl (.inl upd_same))
end
end SG

namespace SG
open PySem PySem.Spec PyProof.Rows L2 TL
open SX (S S_tl S_len)
section
variable {P : Program} {w : World} {K : PySem.W.Frag} {mg : Str → Option Value} {base : Heap}
def spLawRound (K : PySem.W.Frag) : Sp := fun vs H Q _ => ∃ m : Nat, vs = [.int m] ∧ 1 ≤ m ∧ m ≤ 400 ∧
  ∀ (p : Addr) (i n : Nat) (H2 : Hp), IsRound (pow2 m) i n → Same H H2 → SqT K H2 p [.int i, .int ((n : Int) - i)] → Q (.ref p) H2
theorem few_pow {m : Nat} (m1 : 1 ≤ m) : ∀ n, (∀ a b, a < b → b < n → pow2 m a ≠ pow2 m b) → n ≤ m := fun n h => by
  have m0 : (0 : Int) < m := by omega
  refine few_terms (o := pow2 m) (g := fun k => (pow2 m k).toNat) (fun a b e => ?_) (fun a => ?_) h
  · have x := (pow2_in m0 a).1
    have y := (pow2_in m0 b).1
    have e : (pow2 m a).toNat = (pow2 m b).toNat := e
    omega
  · have x := (pow2_in m0 a).1
    have y : pow2 m a < m := Int.emod_lt_of_pos _ m0
    show (pow2 m a).toNat < m
    omega
theorem ok_lawRound {f : Addr} {fd : FuncData} (F : Fun K "_law_round" "_law_round" s__law_round f fd) (T : Txt mg) : GFn P w K mg base CX0 1 f fd ["_law_much"] (spLawRound K) := by
  refine gfun_ok F sc__law_round (fun vs H Q E h => ?_) (fun cdv A outer s H vs Q E hgu hr h => ?_)
  · obtain ⟨m, rfl, _⟩ := h
    rfl
  · obtain ⟨m, rfl, m1, m2, q⟩ := h
    have nd := sc__law_round.nd
    have m0 : (0 : Int) < m := by omega
    refine ⟨_, (pss_cons (ps_par (i := 1) (j := 2) rfl nd rfl rfl (by decide) rfl rfl (pa_cons pe_dnewK (pa_cons (pe_op op_mod (pe_callTy call_int1 (by rfl) T.int (by decide +kernel) (pa_cons pe_int pa_nil)) (pv 0)) pa_nil)) (by rfl))
      (pss_cons (ps_while PassesOwn.never (pt_cmp (pc_dnotin (hu_of hr) (pv 2) (pv 1))) (pss_cons (ps_dput (hu_of hr) (pv 1) (pv 2) (pe_callB call_lenD (by rfl) T.len (by decide +kernel) (pa_cons (pv 1) pa_nil)) rfl)
      (pss_one (ps_set (i := 2) nd rfl (Or.inl rfl) (pe_op op_mod (pe_callTy call_int1 (by rfl) T.int (by decide +kernel) (pa_cons (pe_op op_mul pe_int (pv 2)) pa_nil)) (pv 0))))))
      (pss_one (ps_ret (pe_tup (pa_cons (pe_dget (hu_of hr) (pv 1) (pv 2) (fun _ _ => rfl)) (pa_cons (pe_op op_sub (pe_callB call_lenD (by rfl) T.len (by decide +kernel) (pa_cons (pv 1) pa_nil)) (pe_dget (hu_of hr) (pv 1) (pv 2) (fun _ _ => rfl))) pa_nil))))))), ?_⟩
    refine fun d nd0 => ?_
    have sd : Same H (upd H d (.dK [])) := same_new nd0
    have hd0 : upd H d (.dK []) d = some (.dK (metV (keyI (pow2 m)) 0)) := upd_same
    generalize upd H d (.dK []) = H1 at sd hd0 ⊢
    refine .inl ⟨_, rfl, _, rfl, _, _, rfl, rfl, m0, _, _, rfl, ?_⟩
    refine ⟨fun k σ HI => ∃ j : Nat, σ = [some (.int m), some (.ref d), some (.int (pow2 m j))] ∧ k + j = m + 1 ∧ Same H HI ∧ HI d = some (.dK (metV (keyI (pow2 m)) j)) ∧ (∀ a b, a < b → b < j → keyI (pow2 m) a ≠ keyI (pow2 m) b),
      ⟨m + 1, 0, rfl, rfl, sd, hd0, fun a b _ h => absurd h (Nat.not_lt_zero _)⟩, ?_⟩
    rintro k σ HI ⟨j, rfl, hm, sI, hd, ds⟩
    have fewK : ∀ n, (∀ a b, a < b → b < n → keyI (pow2 m) a ≠ keyI (pow2 m) b) → n ≤ m := fun n h => few_pow m1 n fun a b h1 h2 e => h a b h1 h2 (congrArg Sum.inl e)
    refine ⟨_, rfl, _, rfl, d, _, rfl, DGet.k (k := Sum.inl (pow2 m j)) hd, ?_⟩
    rcases met_cases ds with ⟨i, hi, hv⟩ | ⟨nn, hv⟩
    · have hv : valV (metV (keyI (pow2 m)) j) (Sum.inl (pow2 m j)) = some (.int (i : Int)) := hv
      rw [hv]
      refine ⟨_, rfl, ifF rfl ?_⟩
      have e0 := hv
      refine ⟨_, rfl, _, rfl, d, _, rfl, (by rw [← hv]; exact DGet.k (k := Sum.inl (pow2 m j)) hd), ?_⟩
      refine ⟨_, rfl, d, _, rfl, hd, _, rfl, _, rfl, d, _, rfl, (by rw [← hv]; exact DGet.k (k := Sum.inl (pow2 m j)) hd), ?_⟩
      rw [metV_len]
      refine ⟨_, _, rfl, rfl, by show 2 ≤ sizeLine; decide, fun p np => ?_⟩
      exact q p i j _ (keyI_round.mp hi) (sI.trans (same_new np)) (.inl (.inl upd_same))
    · have hv : valV (metV (keyI (pow2 m)) j) (Sum.inl (pow2 m j)) = none := hv
      rw [hv]
      refine ⟨_, rfl, ifT rfl ?_⟩
      have more := met_more ds nn
      have jN := fewK _ more
      refine ⟨fun σ2 H2 => ∃ j2 : Nat, j2 = j + 1 ∧ σ2 = [some (.int m), some (.ref d), some (.int (pow2 m j2))] ∧ Same H H2 ∧ H2 d = some (.dK (metV (keyI (pow2 m)) j2)), ?_, ?_⟩
      · rintro σ2 H2 ⟨j2, rfl, rfl, s2, hd2⟩
        exact ⟨m - j, by omega, j + 1, rfl, by omega, s2, hd2, more⟩
      · have e : putK (metV (keyI (pow2 m)) j) (Sum.inl (pow2 m j)) (.int (((metV (keyI (pow2 m)) j).length : Nat) : Int)) = metV (keyI (pow2 m)) (j + 1) := by
          rw [metV_len]
          exact metV_put nn
        have hp := DPut.k (k := Sum.inl (pow2 m j)) (v := .int (((metV (keyI (pow2 m)) j).length : Nat) : Int)) hd (by rw [metV_len]; exact small1000 (by omega))
        rw [e] at hp
        refine ⟨_, rfl, d, _, rfl, hd, _, rfl, _, rfl, d, _, rfl, hp, ?_⟩
        have s2 : Same H (upd HI d (.dK (metV (keyI (pow2 m)) (j + 1)))) := same_upd_of sI nd0
        refine ⟨_, rfl, _, _, rfl, rfl, .inl ⟨by decide, by decide⟩, .inl ⟨_, rfl, _, rfl, _, _, rfl, rfl, m0, ?_⟩⟩
        exact ⟨j + 1, rfl, by rw [pow2_succ]; rfl, s2, upd_same⟩
end
end SG

/-! A tuple times a number. -/
namespace SG
open PySem PySem.Spec PyProof.Rows L2
theorem tuple_mulOne (l : Addr) (items : Array Value) (n : Nat) (dd : Option Addr) (sl : Array (Option Value)) (u : Tok) (hi : items.isEmpty = false) :
    Meets (Builtin.«tuple.__mul__» ⟨[.ref l, .int 1 u], []⟩) (fun _ R s => s.heap.get? l = some { cls := .type "tuple", dict := dd, data := .seq items n, slots := sl } ∧ R (.ok (.ret (Value.ref l))) { s with heap := s.heap, toks := s.toks }) :=
  .of_wp fun prog w A R s h => by
    obtain ⟨hp, g, d, tk, os⟩ := s
    obtain ⟨hl, h⟩ := h
    have f1 := AutoSeq1.idx_int
    wp_walk using wpAny_loadPart' hl
    repeat (first
      | (refine wpAny_ite_false (decide_eq_false (by decide)) ?_; wp_walk using wpAny_loadPart' hl)
      | (refine wpAny_ite_true (decide_eq_true (by rw [hi]; decide)) ?_; wp_walk using wpAny_loadPart' hl))
    exact ⟨_, rfl, h⟩
def rRepU (K : PySem.W.Frag) : R2 := fun x y H Q => ∃ l k xs, x = .ref l ∧ y = .int k ∧ SqT K H l xs ∧ xs ≠ [] ∧ 1 ≤ k ∧ k ≤ 1000 ∧ xs.length ≤ 1000 ∧ ∀ (z : Addr) (H3 : Hp), Same H H3 → SqT K H3 z (List.replicate k.toNat xs).flatten → Q (.ref z) H3
theorem k_repT {X : Cx} {K : PySem.W.Frag} (eK : X.K = K := by rfl) : OpR X (binaryOp .Mult) (rRepU K) := by
  subst eK
  intro pins s σ H x y v u Q I rx ry h
  obtain ⟨l, k, xs, rfl, rfl, hT, hne, h1, h2, hz, q⟩ := h
  by_cases h3 : 2 ≤ k
  · exact op_repT pins s σ H _ _ v u Q I rx ry ⟨l, k, xs, rfl, rfl, hT, hne, h3, h2, hz, fun p np => q p _ (same_new np) (.inl (.inl upd_same))⟩
  · obtain rfl : k = 1 := by omega
    obtain rfl : v = Value.ref l := rx
    obtain ⟨t, rfl⟩ : ∃ t, u = Value.int 1 t := ry
    obtain ⟨its, r, ⟨⟨cls, dd, data, sl⟩, ho, hc, n, hd⟩, hs⟩ := I.tuple hT
    simp only at hc hd
    subst hc hd
    have hle : its.length = xs.length := r.length.symm
    have hn : its ≠ [] := fun e => hne (by
      rw [e] at hle
      exact List.eq_nil_of_length_eq_zero hle.symm)
    have hi : its.toArray.isEmpty = false := by
      cases its with
      | nil => exact absurd rfl hn
      | cons a b => rfl
    refine wpAny_binaryOp_repeat_ref (T := "tuple") (U := "int") (by decide) ⟨_, ho, rfl⟩ (fun s' => typeIs_int s' 1 t) noFill_tuple_mul F.fills_int_mul F.slot_int_rmul repeat_tuple F.slot_int_index.lookup
      (call_meets F.slot_int_rmul (typeIs_int s 1 t) F.entry_int_rmul (F.args_int_rmul_2 _ _) (int_rmul_tuple 1 t l its.toArray n dd sl)
        ⟨ho, rfl, ⟨_, ho, rfl⟩, call_meets F.slot_tuple_mul ⟨_, ho, rfl⟩ F.entry_tuple_mul (F.args_tuple_mul_2 _ _) (tuple_mulOne l its.toArray n dd sl t hi) ⟨ho, ?_⟩⟩)
    have e : (List.replicate (1 : Int).toNat xs).flatten = xs := by
      show ([xs] : List (List V)).flatten = xs
      simp
    exact ⟨.ref l, H, I, rfl, q l H (Same.refl H) (by rw [e]; exact hT)⟩
end SG

/-! What stays in the law, and its data. -/
namespace SG
open PySem PySem.Spec PyProof.Rows L2
/-- all stays but the deck, its cells and the tables -/
def Kn (d l : Addr) (H H2 : Hp) : Prop := ∀ b o, H b = some o → b ≠ d → b ≠ l → (∀ ps, o ≠ .tbl ps) → H2 b = some o
section
variable {T : List (Addr × Str)} {K : PySem.W.Frag} {d l : Addr} {H H1 H2 : Hp} {c c2 : Nat} {p : Addr} {xs : List V}
theorem Kn.refl : Kn d l H H := fun _ _ e _ _ _ => e
theorem Kn.trans (a : Kn d l H H1) (b : Kn d l H1 H2) : Kn d l H H2 := fun x o e h1 h2 n => b x o (a x o e h1 h2 n) h1 h2 n
theorem Kn.of (s : Same H H2) : Kn d l H H2 := fun x o e _ _ _ => s x o e
theorem Kn.kept (k : Kept d l H H2) : Kn d l H H2 := fun x o e h1 h2 _ => k x o e h1 h2
theorem Kn.ext (k : LamX.ExtN H H2) : Kn d l H H2 := fun x o e _ _ n => k x o e n
structure Sit (T : List (Addr × Str)) (d l : Addr) (c : Nat) (H : Hp) : Prop where
  deck : Deck H d l c
  tabs : LamX.Tabs T H
theorem Sit.same (S : Sit T d l c H) (s : Same H H2) : Sit T d l c H2 := ⟨S.deck.same s, S.tabs.ext s⟩
theorem Sit.ext (S : Sit T d l c H) (e : LamX.ExtN H H2) (t : LamX.Tabs T H2) : Sit T d l c H2 := by
  obtain ⟨⟨cs, m, n, h1, h2, h3⟩, _⟩ := S
  exact ⟨⟨cs, m, n, e _ _ h1 nofun, e _ _ h2 nofun, h3⟩, t⟩
theorem Sit.kept (S : Sit T d l c H) (D : Deck H2 d l c2) (k : Kept d l H H2) : Sit T d l c2 H2 := by
  obtain ⟨⟨cs, m, n, h1, h2, h3⟩, t⟩ := S
  refine ⟨D, fun p hp => ?_⟩
  obtain ⟨ps, e1, e2, e3⟩ := t p hp
  refine ⟨ps, k _ _ e1 (ne_of e1 h1 nofun) (ne_of e1 h2 nofun), e2, fun pos cv hc => ?_⟩
  obtain ⟨x, r1, r2⟩ := e3 pos cv hc
  exact ⟨x, r1, k _ _ r2 (ne_of r2 h1 (fun z => by unfold LamX.CodeO at z; cases z)) (ne_of r2 h2 (fun z => by unfold LamX.CodeO at z; cases z))⟩
theorem Sit.mono (S : Sit T d l c H) (h : c ≤ c2) : Sit T d l c2 H := ⟨S.deck.mono h, S.tabs⟩
theorem FT.kn (S : Sit T d l c H) (k : Kn d l H H2) (h : FT H p xs) : FT H2 p xs := by
  obtain ⟨⟨cs, m, n, h1, h2, h3⟩, t⟩ := S
  obtain ⟨o, e1, e2⟩ := h
  exact ⟨o, e1, k _ _ e2 (ne_of e2 h1 nofun) (ne_of e2 h2 nofun) nofun⟩
theorem sqt_kn (S : Sit T d l c H) (k : Kn d l H H2) (h : SqT K H p xs) : SqT K H2 p xs := by
  obtain ⟨⟨cs, m, n, h1, h2, h3⟩, t⟩ := S
  rcases h with (h | ⟨o, h⟩) | h
  · exact .inl (.inl (k _ _ h (ne_of h h1 nofun) (ne_of h h2 nofun) nofun))
  · exact .inl (.inr ⟨o, k _ _ h (ne_of h h1 nofun) (ne_of h h2 nofun) nofun⟩)
  · exact .inr h
theorem lst_kn (k : Kn d l H H2) (h : H p = some (.lst xs)) (n1 : p ≠ d) (n2 : p ≠ l) : H2 p = some (.lst xs) := k _ _ h n1 n2 nofun
end
/-! ### data -/
section
variable {K : PySem.W.Frag}
def fr (a b : Int) : PyData := .tuple [.int a, .int b]
theorem dp_fr {H : Hp} {p : Addr} {a b : Int} (h : SqT K H p [.int a, .int b]) : Dp K H (.ref p) (fr a b) := .tup h (.cons (.int _) (.cons (.int _) .nil))
theorem shaped_fr (a b : Int) : SeqAt.shaped (fr a b) = true := by simp [fr, SeqAt.shaped, PyData.canLay0, PyData.canLayAll0, PyData.depth, PyData.depthAll]
theorem eqv_fr (a b : Int) : PyData.eqv (fr a b) (fr a b) = true := by simp [fr, PyData.eqv, PyData.eqvAll]
theorem int_fits {x : Int} (h : Fits x) : x.natAbs < 10 ^ 4300 := Nat.lt_of_lt_of_le h (by decide +kernel)
theorem ok_fr {a b : Int} (ha : Fits a) (hb : Fits b) : OkD (fr a b) := by
  have d0 : ∀ i : Int, (PyData.int i).depth ≤ 49 := fun i => by simp only [PyData.depth]; omega
  have z : OkA [.int a, .int b] := .cons (.int (int_fits ha)) (d0 _) (.cons (.int (int_fits hb)) (d0 _) .nil)
  refine z.tuple ?_
  simp only [PyData.bulkAll, PyData.bulk]
  omega
theorem fr_dep (a b : Int) : (fr a b).depth ≤ 49 := by
  simp only [fr, PyData.depth, PyData.depthAll]
  omega
theorem ok_fr2 {a b c d : Int} (h1 : OkD (fr a b)) (h2 : OkD (fr c d)) : OkD (.list [fr a b, fr c d]) := by
  refine (OkA.cons h1 (fr_dep _ _) (OkA.cons h2 (fr_dep _ _) .nil)).list ?_
  simp only [fr, PyData.bulkAll, PyData.bulk]
  omega
theorem rNe_same {t : Str} {H : Hp} {Q : VK} (q : Q (.bl false) H) : rNe (.str t) (.str t) H Q := ⟨rfl, by rw [decide_eq_true (rfl : V.str t = V.str t)]; exact q⟩
theorem mean_fits {o : Nat → Int} {i n : Nat} (ho : ∀ k, 0 ≤ o k ∧ o k ≤ 1000) (hi : i < n) (hn : n ≤ 400) : Fits (ratN (topM o i n) (botM i n)) ∧ Fits (ratD (topM o i n) (botM i n)) := by
  obtain ⟨a0, a1, b0, b1⟩ := top_in ho (by decide) (by decide) hi hn
  have pw := pow_le400 (k := n - i) (by omega)
  have pi := pow_le400 (k := i) (by omega)
  have one : (1 : Int) ≤ 2 ^ (n - i) - 1 := by
    have : (2 : Int) ^ 1 ≤ 2 ^ (n - i) := by
      have q : (2 : Nat) ^ 1 ≤ 2 ^ (n - i) := Nat.pow_le_pow_right (by decide) (by omega)
      exact_mod_cast q
    omega
  have bp : 0 < botM i n := Int.mul_pos (by omega) (by omega)
  have bl : botM i n ≤ 2 ^ 400 * 2 ^ 400 := Int.le_trans (Int.mul_le_mul_of_nonneg_right (show (2 : Int) ^ (n - i) - 1 ≤ 2 ^ 400 by omega) (by omega)) (Int.mul_le_mul_of_nonneg_left pi.2 (by decide +kernel))
  have et : topM o i n = weighed ((opensTo o n).take i) * (2 ^ (n - i) - 1) * 2 + weighed ((opensTo o n).drop i) * 2 := rfl
  have m0 : 0 ≤ weighed ((opensTo o n).take i) * (2 ^ (n - i) - 1) := Int.mul_nonneg a0 (by omega)
  have m1 : weighed ((opensTo o n).take i) * (2 ^ (n - i) - 1) ≤ 2 ^ 400 * 1000 * 2 ^ 400 := Int.le_trans (Int.mul_le_mul_of_nonneg_right a1 (by omega)) (Int.mul_le_mul_of_nonneg_left (by omega) (by decide +kernel))
  have m2 : weighed ((opensTo o n).take i) * (2 ^ (n - i) - 1) < 2 ^ 1000 := Int.lt_of_le_of_lt m1 (by decide +kernel)
  have tl : topM o i n ≤ 2 ^ 1000 * 2 + 2 ^ 400 * 1000 * 2 := by rw [et]; omega
  have t0 : 0 ≤ topM o i n := by rw [et]; omega
  have c1 : (2 : Int) ^ 1000 * 2 + 2 ^ 400 * 1000 * 2 < 2 ^ 2000 := by decide +kernel
  have c2 : (2 : Int) ^ 400 * 2 ^ 400 < 2 ^ 2000 := by decide +kernel
  have f1 : Fits (topM o i n) := bits_lt t0 (Int.lt_of_le_of_lt tl c1)
  have f2 : Fits (botM i n) := bits_lt (by omega) (Int.lt_of_le_of_lt bl c2)
  exact ⟨Nat.lt_of_le_of_lt (ratN_abs (by omega)) f1, Nat.lt_of_le_of_lt (ratD_abs (by omega)) f2⟩
theorem mean_small {o : Nat → Int} {i n : Nat} (ho : ∀ k, 0 ≤ o k ∧ o k ≤ 1000) (hi : i < n) (hn : n ≤ 400) : (ratN (topM o i n) (botM i n)).natAbs < 2 ^ 1500 ∧ (ratD (topM o i n) (botM i n)).natAbs < 2 ^ 1500 := by
  obtain ⟨a0, a1, b0, b1⟩ := top_in ho (by decide) (by decide) hi hn
  have pw := pow_le400 (k := n - i) (by omega)
  have pi := pow_le400 (k := i) (by omega)
  have one : (1 : Int) ≤ 2 ^ (n - i) - 1 := by
    have : (2 : Int) ^ 1 ≤ 2 ^ (n - i) := by
      have q : (2 : Nat) ^ 1 ≤ 2 ^ (n - i) := Nat.pow_le_pow_right (by decide) (by omega)
      exact_mod_cast q
    omega
  have bp : 0 < botM i n := Int.mul_pos (by omega) (by omega)
  have bl : botM i n ≤ 2 ^ 400 * 2 ^ 400 := Int.le_trans (Int.mul_le_mul_of_nonneg_right (show (2 : Int) ^ (n - i) - 1 ≤ 2 ^ 400 by omega) (by omega)) (Int.mul_le_mul_of_nonneg_left pi.2 (by decide +kernel))
  have et : topM o i n = weighed ((opensTo o n).take i) * (2 ^ (n - i) - 1) * 2 + weighed ((opensTo o n).drop i) * 2 := rfl
  have m0 : 0 ≤ weighed ((opensTo o n).take i) * (2 ^ (n - i) - 1) := Int.mul_nonneg a0 (by omega)
  have m1 : weighed ((opensTo o n).take i) * (2 ^ (n - i) - 1) ≤ 2 ^ 400 * 1000 * 2 ^ 400 := Int.le_trans (Int.mul_le_mul_of_nonneg_right a1 (by omega)) (Int.mul_le_mul_of_nonneg_left (by omega) (by decide +kernel))
  have m2 : weighed ((opensTo o n).take i) * (2 ^ (n - i) - 1) < 2 ^ 1000 := Int.lt_of_le_of_lt m1 (by decide +kernel)
  have tl : topM o i n ≤ 2 ^ 1000 * 2 + 2 ^ 400 * 1000 * 2 := by rw [et]; omega
  have t0 : 0 ≤ topM o i n := by rw [et]; omega
  have c1 : (2 : Int) ^ 1000 * 2 + 2 ^ 400 * 1000 * 2 < 2 ^ 1500 := by decide +kernel
  have c2 : (2 : Int) ^ 400 * 2 ^ 400 < 2 ^ 1500 := by decide +kernel
  have f1 : (topM o i n).natAbs < 2 ^ 1500 := bits_lt t0 (Int.lt_of_le_of_lt tl c1)
  have f2 : (botM i n).natAbs < 2 ^ 1500 := bits_lt (by omega) (Int.lt_of_le_of_lt bl c2)
  exact ⟨Nat.lt_of_le_of_lt (ratN_abs (by omega)) f1, Nat.lt_of_le_of_lt (ratD_abs (by omega)) f2⟩
theorem fits_sum {a b : Int} (ha : a.natAbs < 2 ^ 1500) (hb : b.natAbs < 2 ^ 1500) : Fits (a + b) := by
  have h : (a + b).natAbs < 2 ^ 1501 := by
    have e : (2 : Nat) ^ 1501 = 2 ^ 1500 * 2 := Nat.pow_succ ..
    rw [e]
    omega
  exact Nat.lt_trans h (Nat.pow_lt_pow_right (by decide) (by decide))
/-- the mean as data -/
def meanD (o : Nat → Int) (i n : Nat) : PyData := fr (ratN (topM o i n) (botM i n)) (ratD (topM o i n) (botM i n))
theorem dp_mean {H : Hp} {p : Addr} {o : Nat → Int} {i n : Nat} (h : SqT K H p (meanV o i n)) : Dp K H (.ref p) (meanD o i n) := dp_fr h
theorem ok_meanD {o : Nat → Int} {i n : Nat} (ho : ∀ k, 0 ≤ o k ∧ o k ≤ 1000) (hi : i < n) (hn : n ≤ 400) : OkD (meanD o i n) := ok_fr (mean_fits ho hi hn).1 (mean_fits ho hi hn).2
theorem sk1 : PyData.strOk "drawn" = true := by decide +kernel
theorem sk2 : PyData.strOk "open" = true := by decide +kernel
theorem sb1 : (PyData.str "drawn").bulk = 5 := by decide +kernel
theorem sb2 : (PyData.str "open").bulk = 4 := by decide +kernel
theorem eqv_out (o : Out) : PyData.eqv (outD o) (outD o) = true := by
  simp [outD, PyData.eqv, PyData.eqvAll]
theorem dp_out {H : Hp} {p : Addr} {o : Out} (h : SqT K H p (outV o)) : Dp K H (.ref p) (outD o) := .tup h (.cons (.str _) (.cons (.int _) (.cons (.int _) .nil)))
theorem shaped_out (o : Out) : SeqAt.shaped (outD o) = true := by
  cases o <;> simp [outD, Out.nm, Out.fst, Out.snd, SeqAt.shaped, PyData.canLay0, PyData.canLayAll0, PyData.depth, PyData.depthAll, sk1, sk2]
theorem okD_str {s : Str} (h : ((PyData.str s).canLay0 && decide ((PyData.str s).depth ≤ 49) && tellable (.str s) && (PyData.str s).leavesShort 4302 && decide ((PyData.str s).bulk ≤ 3000)) = true) : OkD (.str s) ∧ (PyData.str s).depth ≤ 49 := by
  simp only [Bool.and_eq_true, decide_eq_true_eq] at h
  exact ⟨⟨h.1.1.1.1, by omega, h.1.1.2, h.1.2, h.2⟩, h.1.1.1.2⟩
theorem okD_str1 : OkD (.str "drawn") ∧ (PyData.str "drawn").depth ≤ 49 := okD_str (by decide +kernel)
theorem okD_str2 : OkD (.str "open") ∧ (PyData.str "open").depth ≤ 49 := okD_str (by decide +kernel)
theorem dep0 (i : Int) : (PyData.int i).depth ≤ 49 := by
  simp only [PyData.depth]
  omega
theorem bulk1 (x y : Int) : PyData.bulkAll [.str "drawn", .int x, .int y] ≤ 10 := by
  simp only [PyData.bulkAll, sb1]
  simp only [PyData.bulk]
  omega
theorem bulk2 (x y : Int) : PyData.bulkAll [.str "open", .int x, .int y] ≤ 10 := by
  simp only [PyData.bulkAll, sb2]
  simp only [PyData.bulk]
  omega
theorem depthO (o : Out) : (outD o).depth ≤ 49 := by
  cases o <;> (simp only [outD, Out.nm, PyData.depth, PyData.depthAll]; omega)
theorem ok_out {o : Out} {N : Nat} (h : o.small N) (hN : N < 10 ^ 4300) : OkD (outD o) ∧ (outD o).bulk ≤ 10 := by
  cases o with
  | drawn x y =>
    have a : OkA [.str "drawn", .int x, .int y] := .cons okD_str1.1 okD_str1.2 (.cons (.int (Nat.lt_of_le_of_lt h.1 hN)) (dep0 _) (.cons (.int (Nat.lt_of_le_of_lt h.2 hN)) (dep0 _) .nil))
    have b := bulk1 x y
    exact ⟨a.tuple (Nat.le_trans b (by decide)), by simpa only [outD, Out.nm, Out.fst, Out.snd, PyData.bulk] using b⟩
  | opened x y =>
    have a : OkA [.str "open", .int x, .int y] := .cons okD_str2.1 okD_str2.2 (.cons (.int (Nat.lt_of_le_of_lt h.1 hN)) (dep0 _) (.cons (.int (Nat.lt_of_le_of_lt h.2 hN)) (dep0 _) .nil))
    have b := bulk2 x y
    exact ⟨a.tuple (Nat.le_trans b (by decide)), by simpa only [outD, Out.nm, Out.fst, Out.snd, PyData.bulk] using b⟩
theorem ok_out2 {o : Out} (h : OkD (outD o) ∧ (outD o).bulk ≤ 10) : OkD (.list [outD o, outD o]) := by
  obtain ⟨a, c⟩ := h
  have b := depthO o
  refine (OkA.cons a b (OkA.cons a b .nil)).list ?_
  simp only [PyData.bulkAll]
  omega
theorem bits_in {gs : List Nat} (hg : ∀ g ∈ gs, isBit g) : ∀ x ∈ bitsOf gs, 0 ≤ x ∧ x ≤ 1 := by
  intro x hx
  obtain ⟨g, hm, rfl⟩ := List.mem_map.mp hx
  rcases hg g hm with rfl | rfl <;> decide
end
/-! ### weights -/
theorem Ws.ones {m : Nat} (m1 : 1 ≤ m) (m2 : m ≤ 400) : Ws (List.replicate m 1) ((m : Int) * 1) :=
  ⟨fun y hy => by rw [List.eq_of_mem_replicate hy]; decide, sum_replicate m 1, by omega, by omega, by rw [List.length_replicate]; exact m2⟩
theorem round_few {ws : List Int} {W : Int} {i n : Nat} (h : Ws ws W) (r : IsRound (restsAt W ws) i n) : n ≤ 400 := by
  have a := round_le h.pos ws r.2.2
  have b := h.le
  omega
theorem open_few {ws : List Int} {W : Int} (h : Ws ws W) : ∀ k, 0 ≤ openO W ws k ∧ openO W ws k ≤ 1000 := fun k => by
  have a := open_in h.pos ws k
  have b := h.len
  omega
theorem pow_few {m : Nat} (m1 : 1 ≤ m) (m2 : m ≤ 400) : ∀ k, 0 ≤ pow2 m k ∧ pow2 m k ≤ 1000 := fun k => by
  have m0 : (0 : Int) < m := by omega
  have x := (pow2_in m0 k).1
  have y : pow2 m k < m := Int.emod_lt_of_pos _ m0
  omega
end SG

namespace SG
open PySem PySem.Spec PyProof.Rows L2 TL
open SX (S S_tl S_len)
section
variable {P : Program} {w : World} {K : PySem.W.Frag} {mg : Str → Option Value} {base : Heap}
theorem sqt_ext {H H2 : Hp} {p : Addr} {xs : List V} (k : LamX.ExtN H H2) (h : SqT K H p xs) : SqT K H2 p xs := by
  rcases h with (h | ⟨o, h⟩) | h
  · exact .inl (.inl (k _ _ h nofun))
  · exact .inl (.inr ⟨o, k _ _ h nofun⟩)
  · exact .inr h
theorem and_two {b : Bool} {c2 : TT} {σ : L2.St} {H : Hp} {R : Bool → Hp → Prop} {Pz : Bool → Hp → Prop} (key : ∀ b H5, Pz b H5 → R b H5) (h1 : b = true → (∀ b H5, Pz b H5 → R b H5) → c2 σ H R) (h2 : b = false → (∀ b H5, Pz b H5 → R b H5) → R false H) : if b = true then c2 σ H R else R false H := by
  cases b with
  | true => exact ifT rfl (h1 rfl key)
  | false => exact ifF rfl (h2 rfl key)
theorem rNe_int {a b : Int} {H : Hp} {Q : VK} (h : a = b) (q : Q (.bl false) H) : rNe (.int a) (.int b) H Q := by
  subst h
  exact ⟨rfl, by rw [decide_eq_true (rfl : V.int a = V.int a)]; exact q⟩
def spSums (K : PySem.W.Frag) (TT : List (Addr × Str)) : Sp := fun vs H Q _ => ∃ (m L : Nat), vs = [.int m, .int L] ∧ 1 ≤ m ∧ m ≤ 300 ∧ L ≤ 30 ∧ LamX.Tabs TT H ∧
  ∀ (H2 : Hp), LamX.ExtN H H2 → LamX.Tabs TT H2 → Q (.bl true) H2
theorem ok_sums {TT : List (Addr × Str)} {f a1 a2 a3 a4 a5 a6 a7 a8 : Addr} {fd d1 d2 d3 d4 d5 d6 d7 d8 : FuncData} (hdg : base.NoDigits) (F : Fun K "_law_sums_right" "_law_sums_right" s__law_sums_right f fd)
    (F__law_twos : Fun K "_law_twos" "_law_twos" s__law_twos a1 d1) (m__law_twos : mg "_law_twos" = some (.ref a1)) (b__law_twos : Binds K d1 ["_law_much"] [])
    (F__law_ratio : Fun K "_law_ratio" "_law_ratio" s__law_ratio a2 d2) (m__law_ratio : mg "_law_ratio" = some (.ref a2)) (b__law_ratio : Binds K d2 ["_law_top", "_law_bottom"] [])
    (F__law_summed : Fun K "_law_summed" "_law_summed" s__law_summed a3 d3) (m__law_summed : mg "_law_summed" = some (.ref a3)) (b__law_summed : Binds K d3 ["_law_opens"] [])
    (F__law_mean_by : Fun K "_law_mean_by" "_law_mean_by" s__law_mean_by a4 d4) (m__law_mean_by : mg "_law_mean_by" = some (.ref a4)) (b__law_mean_by : Binds K d4 ["_law_loads"] [])
    (G_mean : GFn P w K mg base CX0 4 a5 d5 ["many"] (spMean K TT)) (F_mean : Fun K "mean" "mean" s_mean a5 d5) (m_mean : mg "mean" = some (.ref a5)) (b_mean : Binds K d5 ["many"] []) (kb_mean_many : KBinds K d5 ["many"] ["many"] kwOne kwOne)
    (F_power_left : Fun K "power_left" "power_left" s_power_left a6 d6) (m_power_left : mg "power_left" = some (.ref a6)) (b_power_left : Binds K d6 ["depth", "many"] [])
    (F_open_at : Fun K "open_at" "open_at" s_open_at a7 d7) (m_open_at : mg "open_at" = some (.ref a7)) (b_open_at : Binds K d7 ["many", "depth"] [])
    (F_leaves_at : Fun K "leaves_at" "leaves_at" s_leaves_at a8 d8) (m_leaves_at : mg "leaves_at" = some (.ref a8)) (b_leaves_at : Binds K d8 ["many", "depth"] []) (T : Txt mg) :
    GFn P w K mg base CX0 5 f fd ["_law_much", "_law_limit"] (spSums K TT) := by
  have G__law_twos : GFn P w K mg base CX0 1 a1 d1 ["_law_much"] spTwos := ok_twos F__law_twos T
  have G__law_ratio : GFn P w K mg base CX0 1 a2 d2 ["_law_top", "_law_bottom"] (spRatio K) := ok_ratio F__law_ratio T
  have G__law_mean_by : GFn P w K mg base CX0 2 a4 d4 ["_law_loads"] (spLawMean K) := ok_lawMean F__law_mean_by F__law_summed m__law_summed b__law_summed F__law_twos m__law_twos b__law_twos F__law_ratio m__law_ratio b__law_ratio T
  have G_open_at : GFn P w K mg base CX0 2 a7 d7 ["many", "depth"] spOpenAt := ok_open_at F_open_at F_power_left m_power_left b_power_left T
  have G_leaves_at : GFn P w K mg base CX0 2 a8 d8 ["many", "depth"] spLeavesAt := ok_leaves_at F_leaves_at F_power_left m_power_left b_power_left T
  refine gfun_ok F sc__law_sums_right (fun vs H Q E h => ?_) (fun cdv A outer s H vs Q E hgu hr h => ?_)
  · obtain ⟨m, L, rfl, _⟩ := h
    rfl
  · obtain ⟨m, L, rfl, m1, m3, hL, tT, q⟩ := h
    have nd := sc__law_sums_right.nd
    refine ⟨_, (pss_cons (ps_set (i := 2) nd rfl (Or.inl rfl) (pe_g G__law_mean_by hgu (hr.mono (by decide)) (by rfl) m__law_mean_by F__law_mean_by.kp b__law_mean_by .nil pass0 (pa_cons (pe_op (k_repT (K := K)) (pe_tup (pa_cons pe_int pa_nil)) (pv 0)) pa_nil)))
      (pss_cons (ps_if (pt_cmpR op_ne (pe_callB (k_repr (K := K) hdg hgu hr) (by rfl) T.repr (by decide +kernel) (pa_cons (pe_lst (pa_cons (pe_g G_mean hgu (hr.mono (by decide)) (by rfl) m_mean F_mean.kp b_mean .nil pass0 (pa_cons (pv 0) pa_nil)) (pa_cons (pe_gK0 G_mean hgu (hr.mono (by decide)) (by rfl) m_mean F_mean.kp kb_mean_many pass0 (pk_cons (pv 0) pk_nil)) pa_nil))) pa_nil)) (pe_callB (k_repr (K := K) hdg hgu hr) (by rfl) T.repr (by decide +kernel) (pa_cons (pe_lst (pa_cons (pv 2) (pa_cons (pv 2) pa_nil))) pa_nil)) (nomark _)) (pss_one (ps_ret pe_bl)) pss_nil)
      (pss_cons (ps_if (PW.pt (pw_and (pt_cmpR op_le (pv 0) pe_int (nomark _)) (pw_and1 (pt_cmpR (k_neD (K := K) hr.units) (pe_g G_mean hgu (hr.mono (by decide)) (by rfl) m_mean F_mean.kp b_mean .nil pass0 (pa_cons (pe_op op_mul pe_int (pv 0)) pa_nil)) (pe_g G__law_ratio hgu (hr.mono (by decide)) (by rfl) m__law_ratio F__law_ratio.kp b__law_ratio .nil pass0 (pa_cons (pe_op op_add (pe_ix (k_ixT (K := K)) (pv 2) pe_int (fun _ _ => rfl)) (pe_ix (k_ixT (K := K)) (pv 2) pe_int (fun _ _ => rfl))) (pa_cons (pe_ix (k_ixT (K := K)) (pv 2) pe_int (fun _ _ => rfl)) pa_nil))) (nomark _))))) (pss_one (ps_ret pe_bl)) pss_nil)
      (pss_cons (ps_set (i := 3) nd rfl (Or.inl rfl) (pe_callB (k_sum (K := K) rfl) (by rfl) T.sum (by decide +kernel) (pa_cons (pe_lc (own := [("_law_level", 6)]) rfl nd (pi_range1 rfl T.range (pa_cons (pe_op op_add (pv 1) pe_int) pa_nil)) (blkOk_by (N := N__law_sums_right) (sc := defScope s__law_sums_right) (by decide +kernel)) (fun _ _ _ _ _ => (pg_name (i := 6) nd rfl (Or.inl rfl))) (fun _ _ _ _ _ => pts_nil) (fun _ _ _ _ _ => (pe_op op_mulW (pe_g G_leaves_at hgu (hr.mono (by decide)) (by rfl) m_leaves_at F_leaves_at.kp b_leaves_at .nil pass0 (pa_cons (pv 0) (pa_cons (pv 6) pa_nil))) (pe_g G__law_twos hgu (hr.mono (by decide)) (by rfl) m__law_twos F__law_twos.kp b__law_twos .nil pass0 (pa_cons (pe_op op_sub (pv 1) (pv 6)) pa_nil))))) pa_nil)))
      (pss_cons (ps_if (PW.pt (pw_or (pt_cmpR op_ne (pe_op op_add (pv 3) (pe_g G_open_at hgu (hr.mono (by decide)) (by rfl) m_open_at F_open_at.kp b_open_at .nil pass0 (pa_cons (pv 0) (pa_cons (pv 1) pa_nil)))) (pe_g G__law_twos hgu (hr.mono (by decide)) (by rfl) m__law_twos F__law_twos.kp b__law_twos .nil pass0 (pa_cons (pv 1) pa_nil)) (nomark _)) (pw_or1 (pt_cmpR op_ne (pe_g G_open_at hgu (hr.mono (by decide)) (by rfl) m_open_at F_open_at.kp b_open_at .nil pass0 (pa_cons (pv 0) (pa_cons (pv 1) pa_nil))) (pe_op op_mod (pe_g G__law_twos hgu (hr.mono (by decide)) (by rfl) m__law_twos F__law_twos.kp b__law_twos .nil pass0 (pa_cons (pv 1) pa_nil)) (pv 0)) (nomark _))))) (pss_one (ps_ret pe_bl)) pss_nil)
      (pss_cons (ps_set (i := 4) nd rfl (Or.inl rfl) (pe_callB (k_sum (K := K) rfl) (by rfl) T.sum (by decide +kernel) (pa_cons (pe_lc (own := [("_law_level", 6)]) rfl nd (pi_range1 rfl T.range (pa_cons (pe_op op_add (pv 1) pe_int) pa_nil)) (blkOk_by (N := N__law_sums_right) (sc := defScope s__law_sums_right) (by decide +kernel)) (fun _ _ _ _ _ => (pg_name (i := 6) nd rfl (Or.inl rfl))) (fun _ _ _ _ _ => pts_nil) (fun _ _ _ _ _ => (pe_op op_mulW (pe_op op_mul (pe_g G_leaves_at hgu (hr.mono (by decide)) (by rfl) m_leaves_at F_leaves_at.kp b_leaves_at .nil pass0 (pa_cons (pv 0) (pa_cons (pv 6) pa_nil))) (pv 6)) (pe_g G__law_twos hgu (hr.mono (by decide)) (by rfl) m__law_twos F__law_twos.kp b__law_twos .nil pass0 (pa_cons (pe_op op_sub (pv 1) (pv 6)) pa_nil))))) pa_nil)))
      (pss_cons (ps_set (i := 5) nd rfl (Or.inl rfl) (pe_g G__law_ratio hgu (hr.mono (by decide)) (by rfl) m__law_ratio F__law_ratio.kp b__law_ratio .nil pass0 (pa_cons (pe_op op_add (pv 4) (pe_op op_mul (pe_op op_mul (pe_g G_open_at hgu (hr.mono (by decide)) (by rfl) m_open_at F_open_at.kp b_open_at .nil pass0 (pa_cons (pv 0) (pa_cons (pv 1) pa_nil))) (pe_op op_add (pv 1) pe_int)) (pe_callTy call_int1 (by rfl) T.int (by decide +kernel) (pa_cons (pe_cmpR op_gt (pe_g G_open_at hgu (hr.mono (by decide)) (by rfl) m_open_at F_open_at.kp b_open_at .nil pass0 (pa_cons (pv 0) (pa_cons (pv 1) pa_nil))) pe_int (nomark _)) pa_nil)))) (pa_cons (pe_g G__law_twos hgu (hr.mono (by decide)) (by rfl) m__law_twos F__law_twos.kp b__law_twos .nil pass0 (pa_cons (pv 1) pa_nil)) pa_nil))))
      (pss_one (ps_ret (pe_cmpR op_le (pe_op op_mulW (pe_ix (k_ixT (K := K)) (pv 5) pe_int (fun _ _ => rfl)) (pe_ix (k_ixT (K := K)) (pv 2) pe_int (fun _ _ => rfl))) (pe_op op_mulW (pe_ix (k_ixT (K := K)) (pv 2) pe_int (fun _ _ => rfl)) (pe_ix (k_ixT (K := K)) (pv 5) pe_int (fun _ _ => rfl))) (nomark _))))))))))), ?_⟩
    have m0 : (0 : Int) < m := by omega
    have m4 : m ≤ 400 := by omega
    have hw := Ws.ones m1 m4
    have pf := pow_few m1 m4
    refine ⟨by show 1 ≤ sizeLine; decide, fun pt npt => ?_⟩
    have st : Same H (upd H pt (.tup [.int 1])) := same_new npt
    have ht : upd H pt (.tup [.int 1]) pt = some (.tup [.int 1]) := upd_same
    generalize upd H pt (.tup [.int 1]) = H1 at st ht ⊢
    refine ⟨_, rfl, pt, m, [.int 1], rfl, rfl, .inl (.inl ht), by simp, by omega, by omega, by decide, fun pz H2 sz hz => ?_⟩
    have er : (List.replicate (m : Int).toNat [V.int 1]).flatten = (List.replicate m (1 : Int)).map V.int := by
      rw [Int.toNat_natCast, List.map_replicate]
      simp
    rw [er] at hz
    have s12 := st.trans sz
    refine ⟨pz, _, _, rfl, hz, hw, fun pd i n Hb hrd sb hd => ?_⟩
    rw [show ((m : Int) * 1) = (m : Int) * 1 from rfl, open_alike m1 (by decide)] at hd
    have s0b := s12.trans sb
    have n400 := round_few hw hrd
    have hin := hrd.1
    have tb := tT.ext s0b
    have xb : LamX.ExtN H Hb := .of s0b
    clear ht hz
    -- by position and by name
    refine ⟨_, rfl, m, rfl, m1, m4, tb, fun q1 i2 n2 H2 hr2 e2 t2 h2 => ?_⟩
    obtain ⟨rfl, rfl⟩ := (round_alike m1 (by decide) hr2).uniq hrd
    refine ⟨_, rfl, m, rfl, m1, m4, t2, fun q2 i3 n3 H3 hr3 e3 t3 h3 => ?_⟩
    obtain ⟨rfl, rfl⟩ := hr2.uniq hr3
    have h2 := sqt_ext e3 h2
    have hd := sqt_ext (e2.trans e3) hd
    have x3 : LamX.ExtN H H3 := xb.trans (e2.trans e3)
    have okm := ok_meanD pf hin n400
    have okm2 := ok_fr2 okm okm
    refine ⟨by show 2 ≤ sizeLine; decide, fun u1 nu1 => ?_⟩
    have su1 : Same H3 (upd H3 u1 (.lst [.ref q1, .ref q2])) := same_new nu1
    refine ⟨_, rfl, .inl ⟨.list [meanD (pow2 m) i2 n2, meanD (pow2 m) i2 n2], .lst (SqL.of upd_same) (.cons (dp_mean (sameT su1 h2)) (.cons (dp_mean (sameT su1 h3)) .nil)), okm2.tell, Nat.le_trans okm2.dep (by decide), okm2.shown, ?_⟩⟩
    have hd := sameT su1 hd
    have x4 := x3.trans (.of su1)
    have t4 := t3.ext su1
    generalize upd H3 u1 (.lst [.ref q1, .ref q2]) = H4 at hd x4 t4 ⊢
    refine ⟨_, rfl, _, rfl, by show 2 ≤ sizeLine; decide, fun u2 nu2 => ?_⟩
    have su2 : Same H4 (upd H4 u2 (.lst [.ref pd, .ref pd])) := same_new nu2
    have hd := sameT su2 hd
    refine ⟨_, rfl, .inl ⟨.list [meanD (pow2 m) i2 n2, meanD (pow2 m) i2 n2], .lst (SqL.of upd_same) (.cons (dp_mean hd) (.cons (dp_mean hd) .nil)), okm2.tell, Nat.le_trans okm2.dep (by decide), okm2.shown, ?_⟩⟩
    have x5 := x4.trans (.of su2)
    have t5 := t4.ext su2
    generalize upd H4 u2 (.lst [.ref pd, .ref pd]) = H5 at hd x5 t5 ⊢
    refine rNe_same ⟨_, rfl, iteF ?_⟩
    clear h2 h3
    have fit := mean_fits pf hin n400
    refine ⟨_, rfl, _, _, rfl, rfl, _, rfl, and_two (Pz := fun b H6 => b = false ∧ LamX.ExtN H H6 ∧ LamX.Tabs TT H6 ∧ SqT K H6 pd (meanV (pow2 m) i2 n2)) ?_ (fun hb kk => ?_) (fun _ kk => kk _ _ ⟨rfl, x5, t5, hd⟩)⟩
    rotate_left
    · have hb : (m : Int) ≤ 150 := of_decide_eq_true hb
      refine ⟨_, rfl, _, _, rfl, rfl, .inl ⟨by decide, by decide⟩, 2 * m, (by rw [show ((2 * m : Nat) : Int) = 2 * (m : Int) by omega]; rfl), by omega, by omega, t5, fun q3 i4 n4 H6 hr4 e6 t6 h6 => ?_⟩
      have e2m : ((2 * m : Nat) : Int) = 2 * (m : Int) := by omega
      rw [e2m] at hr4 h6
      obtain ⟨rfl, rfl⟩ := hr4.uniq (round_dbl m0 hr2)
      have hd6 := sqt_ext e6 hd
      have at0_ : atI (meanV (pow2 m) i2 n2) 0 = some (.int (ratN (topM (pow2 m) i2 n2) (botM i2 n2))) := rfl
      have at1_ : atI (meanV (pow2 m) i2 n2) 1 = some (.int (ratD (topM (pow2 m) i2 n2) (botM i2 n2))) := rfl
      refine ⟨_, rfl, pd, _, _, _, rfl, rfl, hd6, at0_, _, rfl, pd, _, _, _, rfl, rfl, hd6, at1_, _, _, rfl, rfl, _, rfl, pd, _, _, _, rfl, rfl, hd6, at1_, ?_⟩
      have sm := mean_small pf hin n400
      have dp := ratD_pos (a := topM (pow2 m) i2 n2) (b := botM i2 n2) (by have := bot_pos hin; omega)
      refine ⟨_, _, rfl, by omega, fits_sum sm.1 sm.2, fit.2, fun q4 H7 s7 h7 => ?_⟩
      obtain ⟨ea, eb⟩ := mean_dbl m0 hr2
      rw [ea, eb] at h7
      have sh := shaped_fr (ratN (topM (pow2 (2 * m)) (i2 + 1) (n2 + 1)) (botM (i2 + 1) (n2 + 1))) (ratD (topM (pow2 (2 * m)) (i2 + 1) (n2 + 1)) (botM (i2 + 1) (n2 + 1)))
      refine ⟨fr _ _, fr _ _, dp_fr (sameT s7 h6), dp_fr h7, sh, sh, ?_⟩
      rw [eqv_fr]
      refine ⟨_, rfl, kk _ _ ⟨rfl, x5.trans (e6.trans (.of s7)), t6.ext s7, sameT s7 hd6⟩⟩
    rintro b H6 ⟨rfl, x6, t6, hd6⟩
    refine iteF ?_
    clear hd t5 x5 t4 x4 t3 x3 e3 e2 t2 hrd
    refine ⟨_, rfl, _, _, rfl, rfl, ?_⟩
    refine ⟨(L : Int) + 1, rfl, by omega, by omega, fun D nD => ?_⟩
    refine lc_same (walk_range (n := L + 1)) (by omega) nD (fun i acc _ => acc = (List.range i).map fun d => V.int (leavesOf m (2 ^ d) * 1 * 2 ^ (L - d))) rfl (fun _ _ _ _ _ h => h) (fun _ _ => trivial) ?_ ?_
    · rintro i x acc H7 H8 hi s7 rfl ⟨rfl, rfl⟩ R N hR hN
      have ei : (0 + (i : Int)) = (i : Int) := by omega
      have hR2 := hR (V.int (leavesOf m (2 ^ i) * 2 ^ (L - i)))
      refine ⟨wipe1 _ _ _, yesI ?_⟩
      refine ⟨_, rfl, _, rfl, m, i, by rw [show ((fun i : Nat => V.int (0 + (i : Int))) i) = V.int (i : Int) by show V.int (0 + (i : Int)) = _; rw [ei]]; rfl, m1, by omega, by omega, fun H9 s9 => ?_⟩
      have b1 : (leavesOf (m : Int) (2 ^ i)).natAbs < 2 ^ 10 := Nat.lt_of_le_of_lt (leavesOf_abs _ _) (by omega)
      have b2 : ((2 : Int) ^ (L - i)).natAbs < 2 ^ 40 := bits_lt (by have := pow_le400 (k := L - i) (by omega); omega) (by have q : (2 : Nat) ^ (L - i) < 2 ^ 40 := Nat.pow_lt_pow_right (by decide) (by omega); exact_mod_cast q)
      refine ⟨_, rfl, _, rfl, _, _, rfl, rfl, L - i, ?_, by omega, _, _, rfl, rfl, wide_mul (a := 10) (b := 40) b1 b2 (by decide) (by decide) (by decide), ?_⟩
      · show [V.int ((L : Int) - (0 + (i : Int)))] = _
        rw [ei, show (L : Int) - (i : Int) = ((L - i : Nat) : Int) by omega]
      · refine hR2 _ s9 ?_
        rw [List.range_succ, List.map_append, List.map_singleton, Int.mul_one]
    rintro acc H7 s7 hl7 hD rfl
    have eL : ∀ g : Nat → Int, ((List.range (L + 1)).map fun d => V.int (g d)) = ((List.range (L + 1)).map g).map V.int := fun g => by rw [List.map_map]; rfl
    rw [eL] at hD
    refine ⟨D, (List.range (L + 1)).map fun d => leavesOf (m : Int) (2 ^ d) * 1 * 2 ^ (L - d), rfl, SqL.of hD, ?_⟩
    have hd7 := sameT s7 hd6
    have x7 := x6.trans (.of s7)
    have t7 := t6.ext s7
    clear hD
    -- all weighed
    have la : leafSum (m : Int) (fun _ => 1) L + pow2 m L = 2 ^ L := leaf_all m0 L
    have pm := pf L
    refine ⟨_, rfl, _, rfl, _, rfl, m, L, rfl, m1, by omega, by omega, fun H8 s8 => ?_⟩
    refine ⟨_, _, rfl, rfl, _, rfl, L, rfl, by omega, rNe_int la ⟨_, rfl, iteF ?_⟩⟩
    refine ⟨_, rfl, _, rfl, m, L, rfl, m1, by omega, by omega, fun H9 s9 => ?_⟩
    refine ⟨_, rfl, L, rfl, by omega, _, rfl, _, _, rfl, rfl, m0, rNe_int rfl ⟨_, rfl, iteF ?_⟩⟩
    have hd9 := sameT (s8.trans s9) hd7
    have x9 := x7.trans (.of (s8.trans s9))
    have t9 := t7.ext (s8.trans s9)
    clear hd7 x7 t7 s8 s9
    refine ⟨_, rfl, _, _, rfl, rfl, ?_⟩
    refine ⟨(L : Int) + 1, rfl, by omega, by omega, fun D nD => ?_⟩
    refine lc_same (walk_range (n := L + 1)) (by omega) nD (fun i acc _ => acc = (List.range i).map fun d : Nat => V.int (leavesOf m (2 ^ d) * (d : Int) * 2 ^ (L - d))) rfl (fun _ _ _ _ _ h => h) (fun _ _ => trivial) ?_ ?_
    · rintro i x acc H7 H8 hi s7 rfl ⟨rfl, rfl⟩ R N hR hN
      have ei : (0 + (i : Int)) = (i : Int) := by omega
      have hR2 := hR (V.int (leavesOf m (2 ^ i) * (0 + (i : Int)) * 2 ^ (L - i)))
      refine ⟨wipe1 _ _ _, yesI ?_⟩
      refine ⟨_, rfl, _, rfl, m, i, by rw [show ((fun i : Nat => V.int (0 + (i : Int))) i) = V.int (i : Int) by show V.int (0 + (i : Int)) = _; rw [ei]]; rfl, m1, by omega, by omega, fun H9 s9 => ?_⟩
      have b0 : (leavesOf (m : Int) (2 ^ i)).natAbs < 2 ^ 10 := Nat.lt_of_le_of_lt (leavesOf_abs _ _) (by omega)
      have b1 : (leavesOf (m : Int) (2 ^ i) * (0 + (i : Int))).natAbs < 2 ^ (10 + 5) := wide_lt b0 (by omega)
      have b2 : ((2 : Int) ^ (L - i)).natAbs < 2 ^ 40 := bits_lt (by have := pow_le400 (k := L - i) (by omega); omega) (by have q : (2 : Nat) ^ (L - i) < 2 ^ 40 := Nat.pow_lt_pow_right (by decide) (by omega); exact_mod_cast q)
      refine ⟨_, rfl, _, _, rfl, rfl, .inr ⟨by omega, by omega⟩, _, rfl, _, rfl, _, _, rfl, rfl, L - i, ?_, by omega, _, _, rfl, rfl, wide_mul (a := 10 + 5) (b := 40) b1 b2 (by decide) (by decide) (by decide), ?_⟩
      · show [V.int ((L : Int) - (0 + (i : Int)))] = _
        rw [ei, show (L : Int) - (i : Int) = ((L - i : Nat) : Int) by omega]
      · refine hR2 _ s9 ?_
        rw [List.range_succ, List.map_append, List.map_singleton, ei]
    rintro acc H7 s7 hl7 hD rfl
    rw [eL] at hD
    refine ⟨D, (List.range (L + 1)).map fun d : Nat => leavesOf (m : Int) (2 ^ d) * (d : Int) * 2 ^ (L - d), rfl, SqL.of hD, ?_⟩
    have hd7 := sameT s7 hd9
    have x7 := x9.trans (.of s7)
    have t7 := t9.ext s7
    clear hD
    have ll : leafSum (m : Int) (fun d => (d : Int)) L + pow2 m L * ((L : Int) + 1) = WN (pow2 m) (L + 1) := leaf_lengths m0 L
    have wl : 0 ≤ WN (pow2 m) (L + 1) ∧ WN (pow2 m) (L + 1) ≤ 2 ^ 40 * 1000 := weighed_le (fun x hx => by
      obtain ⟨k, _, rfl⟩ := List.mem_map.mp hx
      exact pf k) (by decide) (by simp [opensTo]; omega)
    refine ⟨_, rfl, _, rfl, _, rfl, m, L, rfl, m1, by omega, by omega, fun H8 s8 => ?_⟩
    refine ⟨_, rfl, _, _, rfl, rfl, _, _, rfl, rfl, .inr ⟨by omega, by omega⟩, ?_⟩
    have eo : (2 : Int) ^ L % (m : Int) * ((L : Int) + 1) * (if decide (0 < (2 : Int) ^ L % (m : Int)) = true then 1 else 0) = pow2 m L * ((L : Int) + 1) := by
      show pow2 m L * ((L : Int) + 1) * (if decide (0 < pow2 (m : Int) L) = true then 1 else 0) = pow2 m L * ((L : Int) + 1)
      by_cases h : 0 < pow2 (m : Int) L
      · rw [if_pos (decide_eq_true h), Int.mul_one]
      · rw [show pow2 (m : Int) L = 0 by omega, Int.zero_mul, Int.zero_mul]
    have ei : ∀ c : Bool, -(2 ^ 64) < (if c = true then (1 : Int) else 0) ∧ (if c = true then (1 : Int) else 0) < 2 ^ 64 := fun c => by cases c <;> decide
    refine ⟨_, rfl, _, rfl, m, L, rfl, m1, by omega, by omega, fun H9 s9 => ⟨_, _, rfl, rfl, .inr ⟨_, rfl, _, _, rfl, rfl, .inr (ei _), _, _, rfl, rfl, ?_⟩⟩⟩
    have p2 := pow_le400 (k := L) (by omega)
    have pp : (0 : Int) < 2 ^ L := Int.pow_pos (by decide)
    have e5 : (2 : Nat) ^ 100 ≤ 2 ^ 2000 := Nat.pow_le_pow_right (by decide) (by decide)
    have e6 : (2 : Nat) ^ L ≤ 2 ^ 100 := Nat.pow_le_pow_right (by decide) (by omega)
    refine ⟨_, rfl, L, rfl, by omega, _, _, rfl, by omega, ?_, ?_, fun q5 H10 s10 h10 => ?_⟩
    · rw [eo]
      show Fits (leafSum (m : Int) (fun d => (d : Int)) L + pow2 m L * ((L : Int) + 1))
      rw [ll]
      exact Nat.lt_of_lt_of_le (bits_lt (a := 100) wl.1 (Int.lt_of_le_of_lt wl.2 (by decide))) e5
    · refine Nat.lt_of_lt_of_le (bits_lt (a := 100) (by omega) ?_) e5
      have q : (2 : Nat) ^ L < 2 ^ 100 := Nat.pow_lt_pow_right (by decide) (by omega)
      exact_mod_cast q
    rw [eo] at h10
    have h10 : SqT K H10 q5 [V.int (ratN (leafSum (m : Int) (fun d => (d : Int)) L + pow2 m L * ((L : Int) + 1)) (2 ^ L)), V.int (ratD (leafSum (m : Int) (fun d => (d : Int)) L + pow2 m L * ((L : Int) + 1)) (2 ^ L))] := h10
    rw [ll] at h10
    have s810 := s8.trans (s9.trans s10)
    have hdz := sameT s810 hd7
    have xz := x7.trans (.of s810)
    have tz := t7.ext s810
    have mb := mean_bound m0 hr2 L
    have sm := mean_small pf hin n400
    have wn : (WN (pow2 m) (L + 1)).natAbs < 2 ^ 100 := bits_lt wl.1 (Int.lt_of_le_of_lt wl.2 (by decide))
    have pn : ((2 : Int) ^ L).natAbs < 2 ^ 100 := bits_lt (by omega) (by
      have q : (2 : Nat) ^ L < 2 ^ 100 := Nat.pow_lt_pow_right (by decide) (by omega)
      exact_mod_cast q)
    have r1 : (ratN (WN (pow2 m) (L + 1)) (2 ^ L)).natAbs < 2 ^ 100 := Nat.lt_of_le_of_lt (ratN_abs (by omega)) wn
    have r2 : (ratD (WN (pow2 m) (L + 1)) (2 ^ L)).natAbs < 2 ^ 100 := Nat.lt_of_le_of_lt (ratD_abs (by omega)) pn
    have at0n : atI [V.int (ratN (WN (pow2 m) (L + 1)) (2 ^ L)), V.int (ratD (WN (pow2 m) (L + 1)) (2 ^ L))] 0 = some (.int (ratN (WN (pow2 m) (L + 1)) (2 ^ L))) := rfl
    have at1n : atI [V.int (ratN (WN (pow2 m) (L + 1)) (2 ^ L)), V.int (ratD (WN (pow2 m) (L + 1)) (2 ^ L))] 1 = some (.int (ratD (WN (pow2 m) (L + 1)) (2 ^ L))) := rfl
    have at0_ : atI (meanV (pow2 m) i2 n2) 0 = some (.int (ratN (topM (pow2 m) i2 n2) (botM i2 n2))) := rfl
    have at1_ : atI (meanV (pow2 m) i2 n2) 1 = some (.int (ratD (topM (pow2 m) i2 n2) (botM i2 n2))) := rfl
    refine ⟨_, rfl, q5, _, _, _, rfl, rfl, h10, at0n, _, rfl, pd, _, _, _, rfl, rfl, hdz, at1_, _, _, rfl, rfl, wide_mul (a := 100) (b := 1500) r1 sm.2 (by decide) (by decide) (by decide), ?_⟩
    refine ⟨_, rfl, pd, _, _, _, rfl, rfl, hdz, at0_, _, rfl, q5, _, _, _, rfl, rfl, h10, at1n, _, _, rfl, rfl, wide_mul (a := 1500) (b := 100) sm.1 r2 (by decide) (by decide) (by decide), ?_⟩
    refine ⟨_, _, rfl, rfl, ?_⟩
    have qz := q H10 xz tz
    rw [← decide_eq_true mb] at qz
    exact qz
end
end SG

namespace SG
open PySem PySem.Spec PyProof.Rows L2 TL
open SX (S S_tl S_len)
section
variable {P : Program} {w : World} {K : PySem.W.Frag} {mg : Str → Option Value} {base : Heap}
theorem isBit_int {b : Int} (h : b = 0 ∨ b = 1) : isBit (b + 48).toNat ∧ (((b + 48).toNat : Nat) : Int) - 48 = b := by
  rcases h with rfl | rfl
  · exact ⟨.inl rfl, rfl⟩
  · exact ⟨.inr rfl, rfl⟩
theorem rowG_len (m x : Int) (d : Nat) : (rowG m x d).length = d := by
  unfold rowG
  rw [List.length_map, List.length_reverse, rowR_len]
theorem rowG_bits (m x : Int) (d : Nat) : ∀ g ∈ rowG m x d, isBit g := by
  intro g hg
  obtain ⟨b, hb, rfl⟩ := List.mem_map.mp hg
  exact (isBit_int (rowR_bits (lvs m) d x b (List.mem_reverse.mp hb))).1
theorem bitsOf_row (m x : Int) (d : Nat) : bitsOf (rowG m x d) = (rowR (lvs m) d x).reverse := by
  unfold rowG bitsOf
  rw [List.map_map]
  refine (List.map_congr_left (g := id) fun b hb => ?_).trans (List.map_id _)
  exact (isBit_int (rowR_bits (lvs m) d x b (List.mem_reverse.mp hb))).2
theorem deps_at {m : Nat} (m1 : 1 ≤ m) {L d : Nat} (h : d ∈ deps (m : Int) (L + 1)) : (m = 1 ∧ d = 0) ∨ ((1 : Int) < m ∧ ∃ j, d = j + 1 ∧ lvs (m : Int) (j + 1) = m) := by
  by_cases e : m = 1
  · subst e
    rw [show (((1 : Nat) : Int)) = 1 from rfl, deps_one] at h
    exact .inl ⟨rfl, List.mem_singleton.mp h⟩
  · have hm : (1 : Int) < m := by omega
    have hb : (2 : Int) ^ d / m % 2 = 1 := by
      unfold deps at h
      simpa using (List.mem_filter.mp h).2
    refine .inr ⟨hm, ?_⟩
    rcases d with _ | j
    · rw [show (2 : Int) ^ 0 = 1 from rfl, Int.ediv_eq_zero_of_lt (by decide) hm] at hb
      cases hb
    · refine ⟨j, rfl, ?_⟩
      unfold lvs leavesOf
      rw [if_pos hb]
theorem row_due {m : Nat} (m1 : 1 ≤ m) {x : Int} (x0 : 0 ≤ x) (x1 : x < m) {L d : Nat} (h : d ∈ deps (m : Int) (L + 1)) : due m (bitsOf (rowG m x d)) = .drawn x d := by
  rcases deps_at m1 h with ⟨rfl, rfl⟩ | ⟨hm, j, rfl, hl⟩
  · obtain rfl : x = 0 := by omega
    exact due_one _
  · rw [bitsOf_row, due_drawF hm _ fun b hb => ?_]
    · exact row_draws hm hl x0 x1
    · rcases rowR_bits (lvs m) (j + 1) x b (List.mem_reverse.mp hb) with rfl | rfl <;> decide
theorem row_due2 {m : Nat} (m1 : 1 ≤ m) {x : Int} (x0 : 0 ≤ x) (x1 : x < m) {L d : Nat} (h : d ∈ deps (m : Int) (L + 1)) (hd : 0 < d) : (due m (bitsOf (rowG m x d).dropLast)).nm = "open" := by
  rcases deps_at m1 h with ⟨rfl, rfl⟩ | ⟨hm, j, rfl, hl⟩
  · omega
  · have e : bitsOf (rowG m x (j + 1)).dropLast = (rowR (lvs m) (j + 1) x).reverse.dropLast := by
      rw [← bitsOf_row]
      unfold bitsOf
      rw [List.map_dropLast]
    rw [e, due_drawF hm _ fun b hb => ?_, row_ahead hm hl x0 x1]
    · rfl
    · rcases rowR_bits (lvs m) (j + 1) x b (List.mem_reverse.mp (List.dropLast_subset _ hb)) with rfl | rfl <;> decide
/-- the rows as data -/
def strsD (zs : List Str) : PyData := .tuple (zs.map PyData.str)
theorem strs_all {H : Hp} : ∀ zs : List Str, DpAll K H (zs.map V.str) (zs.map PyData.str)
  | [] => .nil
  | z :: zs => .cons (.str z) (strs_all zs)
theorem strs_lay : ∀ zs : List Str, (∀ z ∈ zs, PyData.strOk z = true) → PyData.canLayAll0 (zs.map PyData.str) = true
  | [], _ => rfl
  | z :: zs, h => by
    rw [List.map_cons, PyData.canLayAll0, PyData.canLay0, h z List.mem_cons_self, strs_lay zs fun y hy => h y (List.mem_cons_of_mem _ hy)]
    rfl
theorem strs_dep : ∀ zs : List Str, PyData.depthAll (zs.map PyData.str) ≤ 1
  | [] => by simp [PyData.depthAll]
  | z :: zs => by
    have := strs_dep zs
    rw [List.map_cons, PyData.depthAll, PyData.depth]
    omega
theorem shaped_strs {zs : List Str} (h : ∀ z ∈ zs, PyData.strOk z = true) : SeqAt.shaped (strsD zs) = true := by
  have d := strs_dep zs
  unfold SeqAt.shaped strsD
  rw [PyData.canLay0, strs_lay zs h, PyData.depth, Bool.true_and]
  exact decide_eq_true (by omega)
theorem eqv_strs {zs : List Str} (h : ∀ z ∈ zs, PyData.strOk z = true) : PyData.eqv (strsD zs) (strsD zs) = true := by
  refine SeqAt.eqv_refl _ ?_
  unfold strsD
  rw [PyData.canLay0, strs_lay zs h]
theorem strOk_bits {gs : List Nat} (h : ∀ g ∈ gs, isBit g) : PyData.strOk (S gs) = true := by
  unfold PyData.strOk
  rw [Array.all_eq_true]
  intro i hi
  have hm : (S gs).cps[i] ∈ gs := by
    have : (S gs).cps[i] ∈ (S gs).cps.toList := by simp
    simpa [S] using this
  rcases h _ hm with e | e <;> rw [e] <;> decide
theorem cutS_last (gs : List Nat) (h : 0 < gs.length) : cutS (S gs) none (some (-1)) = S gs.dropLast := by
  have e : HT.sIx gs.length gs.length (some (-1)) = gs.length - 1 := by
    show (if (-1 : Int) < 0 then ((-1 : Int) + (gs.length : Int)).toNat else min (-1 : Int).toNat gs.length) = _
    rw [if_pos (by decide)]
    omega
  unfold cutS
  rw [HT.sIx_none, S_len, e, List.drop_zero, Nat.sub_zero, List.dropLast_eq_take]
def spRows : Sp := fun vs H Q _ => ∃ (m : Nat) (x : Int) (L : Nat), vs = [.int m, .int x, .int L] ∧ 1 ≤ m ∧ m < 10 ^ 60 ∧ 0 ≤ x ∧ x < m ∧ L ≤ 400 ∧
  ∀ (H2 : Hp), Same H H2 → Q (.bl true) H2
theorem ok_rowsRight {f a1 a2 a3 a4 : Addr} {fd d1 d2 d3 d4 : FuncData} (hdg : base.NoDigits) (F : Fun K "_law_rows_right" "_law_rows_right" s__law_rows_right f fd)
    (F__law_twos : Fun K "_law_twos" "_law_twos" s__law_twos a1 d1) (m__law_twos : mg "_law_twos" = some (.ref a1)) (b__law_twos : Binds K d1 ["_law_much"] [])
    (F_draw : Fun K "draw" "draw" s_draw a2 d2) (m_draw : mg "draw" = some (.ref a2)) (b_draw : Binds K d2 ["many", "tosses"] [])
    (F_rows_to : Fun K "rows_to" "rows_to" s_rows_to a3 d3) (m_rows_to : mg "rows_to" = some (.ref a3)) (b_rows_to : Binds K d3 ["many", "index", "most"] []) (kb_rows_to_most_index_many : KBinds K d3 ["many", "index", "most"] ["most", "index", "many"] kwThree kwThree)
    (F_row_to : Fun K "row_to" "row_to" s_row_to a4 d4) (m_row_to : mg "row_to" = some (.ref a4)) (b_row_to : Binds K d4 ["leaves", "place"] []) (T : Txt mg) :
    GFn P w K mg base CX0 3 f fd ["_law_much", "_law_piece", "_law_limit"] spRows := by
  have G__law_twos : GFn P w K mg base CX0 1 a1 d1 ["_law_much"] spTwos := ok_twos F__law_twos T
  have G_draw : GFn P w K mg base CX0 1 a2 d2 ["many", "tosses"] (spDue K) := ok_drawP F_draw T
  have G_rows_to : GFn P w K mg base CX0 2 a3 d3 ["many", "index", "most"] (spRowsTo K) := ok_rowsTo F_rows_to F_row_to m_row_to b_row_to T
  refine gfun_ok F sc__law_rows_right (fun vs H Q E h => ?_) (fun cdv A outer s H vs Q E hgu hr h => ?_)
  · obtain ⟨m, x, L, rfl, _⟩ := h
    rfl
  · obtain ⟨m, x, L, rfl, m1, m2, x0, x1, hL, q⟩ := h
    have nd := sc__law_rows_right.nd
    refine ⟨_, (pss_cons (ps_set (i := 3) nd rfl (Or.inl rfl) (pe_g G_rows_to hgu (hr.mono (by decide)) (by rfl) m_rows_to F_rows_to.kp b_rows_to .nil pass0 (pa_cons (pv 0) (pa_cons (pv 1) (pa_cons (pv 2) pa_nil)))))
      (pss_cons (ps_par (i := 4) (j := 5) rfl nd rfl rfl (by decide) rfl rfl (pa_cons (pe_lst pa_nil) (pa_cons pe_int pa_nil)) (by rfl))
      (pss_cons (ps_for PassesOwn.never rfl (pi_range1 rfl T.range (pa_cons (pe_op op_add (pv 2) pe_int) pa_nil)) (pg_name (i := 6) nd rfl (Or.inl rfl))
        (pss_cons (ps_set (i := 4) nd rfl (Or.inl rfl) (pe_op op_cat (pv 4) (pe_op op_rep (pe_lst (pa_cons (pv 6) pa_nil)) (pe_callTy call_int1 (by rfl) T.int (by decide +kernel) (pa_cons (pe_cmpR op_eq (pe_op op_mod (pe_op op_fdivW (pv 5) (pv 0)) pe_int) pe_int (nomark _)) pa_nil)))))
      (pss_one (ps_set (i := 5) nd rfl (Or.inl rfl) (pe_op op_mul pe_int (pv 5))))))
      (pss_cons (ps_if (PW.pt (pw_or (pt_not (pt_val (pe_callB (k_isi (K := K)) (by rfl) T.isinstance (by decide +kernel) (pa_cons (pv 3) (pa_cons (pe_bltn (v := .ty "tuple") (by rfl) T.tuple (by decide +kernel) rfl) pa_nil))))) (pw_or1 (pt_cmpR (k_neD (K := K) hr.units) (pe_lc (own := [("_law_row", 7)]) rfl nd (pi_tup (pv 3)) (blkOk_by (N := N__law_rows_right) (sc := defScope s__law_rows_right) (by decide +kernel)) (fun _ _ _ _ _ => (pg_name (i := 7) nd rfl (Or.inl rfl))) (fun _ _ _ _ _ => pts_nil) (fun _ _ _ _ _ => (pe_callB call_len_str (by rfl) T.len (by decide +kernel) (pa_cons (pv 7) pa_nil)))) (pv 4) (nomark _))))) (pss_one (ps_ret pe_bl)) pss_nil)
      (pss_cons (ps_if (pt_cmpR (k_neD (K := K) hr.units) (pe_gK0 G_rows_to hgu (hr.mono (by decide)) (by rfl) m_rows_to F_rows_to.kp kb_rows_to_most_index_many pass0 (pk_cons (pv 2) (pk_cons (pv 1) (pk_cons (pv 0) pk_nil)))) (pv 3) (nomark _)) (pss_one (ps_ret pe_bl)) pss_nil)
      (pss_cons (ps_if (pt_cmpR (k_neD (K := K) hr.units) (pe_lc (own := [("_law_row", 7)]) rfl nd (pi_tup (pv 3)) (blkOk_by (N := N__law_rows_right) (sc := defScope s__law_rows_right) (by decide +kernel)) (fun _ _ _ _ _ => (pg_name (i := 7) nd rfl (Or.inl rfl))) (fun _ _ _ _ _ => (pts_one (pt_cmpR op_ne (pe_callB (k_repr (K := K) hdg hgu hr) (by rfl) T.repr (by decide +kernel) (pa_cons (pe_g G_draw hgu (hr.mono (by decide)) (by rfl) m_draw F_draw.kp b_draw .nil pass0 (pa_cons (pv 0) (pa_cons (pv 7) pa_nil))) pa_nil)) (pe_callB (k_repr (K := K) hdg hgu hr) (by rfl) T.repr (by decide +kernel) (pa_cons (pe_tup (pa_cons pe_str (pa_cons (pv 1) (pa_cons (pe_callB call_len_str (by rfl) T.len (by decide +kernel) (pa_cons (pv 7) pa_nil)) pa_nil)))) pa_nil)) (nomark _)))) (fun _ _ _ _ _ => (pv 7))) (pe_lst pa_nil) (nomark _)) (pss_one (ps_ret pe_bl)) pss_nil)
      (pss_cons (ps_if (pt_cmpR (k_neD (K := K) hr.units) (pe_lc (own := [("_law_row", 7)]) rfl nd (pi_tup (pv 3)) (blkOk_by (N := N__law_rows_right) (sc := defScope s__law_rows_right) (by decide +kernel)) (fun _ _ _ _ _ => (pg_name (i := 7) nd rfl (Or.inl rfl))) (fun _ _ _ _ _ => (pts_one (PW.pt (pw_and (pt_cmpR op_gt (pe_callB call_len_str (by rfl) T.len (by decide +kernel) (pa_cons (pv 7) pa_nil)) pe_int (nomark _)) (pw_and1 (pt_cmpR op_ne (pe_ix (k_ixT (K := K)) (pe_g G_draw hgu (hr.mono (by decide)) (by rfl) m_draw F_draw.kp b_draw .nil pass0 (pa_cons (pv 0) (pa_cons (pe_slice sl_str (pv 7) po_none (po_some (pe_un un_neg pe_int))) pa_nil))) pe_int (fun _ _ => rfl)) pe_str (nomark _))))))) (fun _ _ _ _ _ => (pv 7))) (pe_lst pa_nil) (nomark _)) (pss_one (ps_ret pe_bl)) pss_nil)
      (pss_one (ps_ret (pe_cmpR op_eq (pe_callB (k_sum (K := K) rfl) (by rfl) T.sum (by decide +kernel) (pa_cons (pe_lc (own := [("_law_row", 7)]) rfl nd (pi_tup (pv 3)) (blkOk_by (N := N__law_rows_right) (sc := defScope s__law_rows_right) (by decide +kernel)) (fun _ _ _ _ _ => (pg_name (i := 7) nd rfl (Or.inl rfl))) (fun _ _ _ _ _ => pts_nil) (fun _ _ _ _ _ => (pe_g G__law_twos hgu (hr.mono (by decide)) (by rfl) m__law_twos F__law_twos.kp b__law_twos .nil pass0 (pa_cons (pe_op op_sub (pv 2) (pe_callB call_len_str (by rfl) T.len (by decide +kernel) (pa_cons (pv 7) pa_nil))) pa_nil)))) pa_nil)) (pe_op op_fdivW (pe_g G__law_twos hgu (hr.mono (by decide)) (by rfl) m__law_twos F__law_twos.kp b__law_twos .nil pass0 (pa_cons (pv 2) pa_nil)) (pv 0)) (nomark _))))))))))), ?_⟩
    have m0 : (0 : Int) < m := by omega
    have dl : (deps (m : Int) (L + 1)).length ≤ L + 1 := deps_len _ _
    refine ⟨_, rfl, _, rfl, _, rfl, m, x, L, rfl, m1, m2, x0, x1, hL, fun pr H1 s1 h1 => ?_⟩
    generalize hD : deps (m : Int) (L + 1) = D at dl h1
    refine ⟨Nat.zero_le _, fun p0 np0 => ⟨_, _, rfl, ?_⟩⟩
    have s2 : Same H (upd H1 p0 (.lst [])) := s1.trans (same_new np0)
    have h2 : SqT K (upd H1 p0 (.lst [])) pr (D.map fun d => V.str (S (rowG m x d))) := sameT (same_new np0) h1
    have e2 : upd H1 p0 (.lst []) p0 = some (.lst []) := upd_same
    generalize upd H1 p0 (.lst []) = H2 at s2 h2 e2 ⊢
    refine ⟨_, rfl, _, _, rfl, rfl, (L : Int) + 1, rfl, by omega, by omega, ?_⟩
    refine for_range (lo := 0) (n := L + 1) (fun t σ HI => ∃ (pt : Addr) (y6 : Option V), σ = [some (.int m), some (.int x), some (.int L), some (.ref pr), some (.ref pt), some (.int (2 ^ t)), y6, none] ∧ Same H2 HI ∧ HI pt = some (.lst ((deps (m : Int) t).map fun d : Nat => V.int (d : Int)))) ⟨p0, none, rfl, Same.refl _, e2⟩ ?_ ?_
    · rintro t σ HI ht ⟨pt, y6, rfl, sI, htI⟩
      have et : (0 + (t : Int)) = (t : Int) := by omega
      have dt := deps_len (m : Int) t
      have cd : CDivW ((2 : Int) ^ t) (m : Int) := wide_div (b := 200) m0 (Nat.lt_of_lt_of_le (by omega : ((m : Int)).natAbs < 10 ^ 60) (by decide +kernel)) (by decide) (by decide)
      refine ⟨_, rfl, _, rfl, by show 1 ≤ sizeLine; decide, fun pl npl => ?_⟩
      have s4 := sI.trans (same_new (o := .lst [.int (0 + (t : Int))]) npl)
      have h4 : upd HI pl (.lst [.int (0 + (t : Int))]) pt = some (.lst ((deps (m : Int) t).map fun d : Nat => V.int (d : Int))) := (same_new npl) _ _ htI
      have l4 : upd HI pl (.lst [.int (0 + (t : Int))]) pl = some (.lst [.int (0 + (t : Int))]) := upd_same
      generalize upd HI pl (.lst [.int (0 + (t : Int))]) = H4 at s4 h4 l4 ⊢
      refine ⟨_, rfl, _, rfl, _, _, rfl, rfl, cd, _, _, rfl, rfl, by show (0 : Int) < 2; decide, rfl, .inr ⟨_, rfl, ?_⟩⟩
      have ek : ∀ c : Bool, (c = true ↔ (2 : Int) ^ t / m % 2 = 1) → (List.replicate (if c = true then (1 : Int) else 0).toNat [V.int (0 + (t : Int))]).flatten = ((if (2 : Int) ^ t / m % 2 = 1 then [t] else []) : List Nat).map fun d : Nat => V.int (d : Int) := by
        intro c hc
        cases c with
        | true => rw [if_pos rfl, if_pos (hc.mp rfl), et]; rfl
        | false => rw [if_neg Bool.false_ne_true, if_neg (fun z => Bool.false_ne_true (hc.mpr z))]; rfl
      have kb : ∀ c : Bool, -(2 ^ 63) ≤ (if c = true then (1 : Int) else 0) ∧ (if c = true then (1 : Int) else 0) < 2 ^ 63 ∧ ([V.int (0 + (t : Int))]).length * (if c = true then (1 : Int) else 0).toNat ≤ sizeLine := fun c => by
        show _ ∧ _ ∧ 1 * (if c = true then (1 : Int) else 0).toNat ≤ sizeLine
        cases c <;> decide
      have dc : decide (V.int ((2 : Int) ^ t / m % 2) = V.int 1) = true ↔ (2 : Int) ^ t / m % 2 = 1 := by rw [dec_int, beq_iff_eq]
      refine ⟨pl, _, _, rfl, rfl, l4, (kb _).1, (kb _).2.1, (kb _).2.2, fun p5 np5 => ?_⟩
      rw [ek _ dc]
      have s5 := s4.trans (same_new (o := .lst (((if (2 : Int) ^ t / m % 2 = 1 then [t] else []) : List Nat).map fun d : Nat => V.int (d : Int))) np5)
      have h5 := (same_new (o := .lst (((if (2 : Int) ^ t / m % 2 = 1 then [t] else []) : List Nat).map fun d : Nat => V.int (d : Int))) np5) _ _ h4
      have l5 : upd H4 p5 (.lst (((if (2 : Int) ^ t / m % 2 = 1 then [t] else []) : List Nat).map fun d : Nat => V.int (d : Int))) p5 = some (.lst (((if (2 : Int) ^ t / m % 2 = 1 then [t] else []) : List Nat).map fun d : Nat => V.int (d : Int))) := upd_same
      generalize upd H4 p5 (.lst (((if (2 : Int) ^ t / m % 2 = 1 then [t] else []) : List Nat).map fun d : Nat => V.int (d : Int))) = H5 at s5 h5 l5 ⊢
      have sz1 : ((if (2 : Int) ^ t / m % 2 = 1 then [t] else []) : List Nat).length ≤ 1 := by split <;> simp
      refine ⟨pt, p5, _, _, rfl, rfl, h5, l5, by rw [List.length_map, List.length_map]; exact Nat.le_of_lt (small1000 (by omega)), fun p6 np6 => ?_⟩
      rw [← List.map_append, ← deps_succ]
      have s6 := s5.trans (same_new (o := .lst ((deps (m : Int) (t + 1)).map fun d : Nat => V.int (d : Int))) np6)
      refine ⟨_, rfl, _, _, rfl, rfl, .inl ⟨by decide, by decide⟩, ?_⟩
      exact ⟨p6, _, by rw [show (2 : Int) ^ (t + 1) = 2 * 2 ^ t by rw [Int.pow_succ, Int.mul_comm]]; rfl, s6, upd_same⟩
    · rintro σ HI ⟨pt, y6, rfl, sI, htI⟩
      have h3 := sameT sI h2
      have s3 := s2.trans sI
      rw [hD] at htI
      have eR : (D.map fun d => V.str (S (rowG m x d))) = (D.map fun d => S (rowG m x d)).map V.str := by rw [List.map_map]; rfl
      have okR : ∀ z ∈ D.map fun d => S (rowG m x d), PyData.strOk z = true := by
        intro z hz
        obtain ⟨d, _, rfl⟩ := List.mem_map.mp hz
        exact strOk_bits (rowG_bits m x d)
      have dpR : ∀ {HZ : Hp} {q : Addr}, SqT K HZ q (D.map fun d => V.str (S (rowG m x d))) → Dp K HZ (.ref q) (strsD (D.map fun d => S (rowG m x d))) := fun h => .tup (by rw [← eR]; exact h) (strs_all _)
      have shR := shaped_strs okR
      have eqR := eqv_strs okR
      refine ⟨_, rfl, _, _, _, _, _, rfl, .ty "tuple", dq_ty (.inl (dpR h3)), isi_tuple (.inl (dpR h3)), _, rfl, ?_⟩
      refine ifF rfl ?_
      have sn : ∀ d : Nat, (S (rowG m x d)).length = d := fun d => (S_len _).trans (rowG_len _ _ _)
      -- as long as the depths
      refine ⟨_, rfl, pr, rfl, ⟨_, h3⟩, fun Q1 nQ1 => ?_⟩
      refine lc_same (walk_tup (K := K) (a := pr) (xs := D.map fun d => V.str (S (rowG m x d)))) (by rw [List.length_map]; omega) nQ1 (fun i acc _ => acc = ((D.take i).map fun d : Nat => V.int (d : Int))) rfl (fun _ _ _ _ _ h => h) (fun H5 s5 => sameT s5 h3) ?_ ?_
      · rintro i z acc H5 H6 hi s5 rfl ⟨rfl, hz⟩ R N hR hN
        obtain ⟨d, hd, rfl⟩ : ∃ d, D[i]? = some d ∧ z = V.str (S (rowG m x d)) := by
          rw [List.getElem?_map] at hz
          obtain ⟨d, hd, e⟩ := Option.map_eq_some_iff.mp hz
          exact ⟨d, hd, e.symm⟩
        have dL : d ≤ L := by
          have := deps_lt (m := (m : Int)) (n := L + 1) (d := d) (by rw [hD]; exact List.mem_of_getElem? hd)
          omega
        refine ⟨wipe1 _ _ _, yesI ?_⟩
        refine ⟨_, rfl, _, rfl, by rw [sn]; exact Nat.le_of_lt (small1000 (by omega)), hR _ _ (Same.refl _) ?_⟩
        rw [sn, List.take_succ, hd]
        simp
      · rintro acc H5 s5 hl2 hD5 rfl
        rw [List.length_map, List.take_length] at hD5
        have h5 := sameT s5 h3
        have eI : (D.map fun d : Nat => V.int (d : Int)) = (D.map fun d : Nat => (d : Int)).map V.int := by rw [List.map_map]; rfl
        have htI := s5 _ _ htI
        rw [eI] at hD5 htI
        refine ⟨_, rfl, .list (dI (D.map fun d : Nat => (d : Int))), .list (dI (D.map fun d : Nat => (d : Int))), .lst (SqL.of hD5) (dpInts _), .lst (SqL.of htI) (dpInts _), shI _, shI _, ?_⟩
        rw [eqv_ints, decide_eq_true rfl]
        refine ⟨_, rfl, iteF ?_⟩
        have s35 := s3.trans s5
        clear hD5 htI h3 h2 h1 s3 s2 s1 sI s5
        -- by name
        refine ⟨_, rfl, _, rfl, _, rfl, m, x, L, rfl, m1, m2, x0, x1, hL, fun pq H6 s6 h6 => ?_⟩
        rw [hD] at h6
        have h5 := sameT s6 h5
        refine ⟨_, rfl, _, _, dpR h6, dpR h5, shR, shR, ?_⟩
        rw [eqR]
        refine ⟨_, rfl, iteF ?_⟩
        have s36 := s35.trans s6
        have mem_at : ∀ z ∈ (D.map fun d => V.str (S (rowG m x d))), ∃ d, z = V.str (S (rowG m x d)) ∧ d ∈ deps (m : Int) (L + 1) ∧ d ≤ L := by
          intro z hz
          obtain ⟨d, hd, rfl⟩ := List.mem_map.mp hz
          rw [← hD] at hd
          have := deps_lt hd
          exact ⟨d, rfl, hd, by omega⟩
        have lenD : (D.map fun d => V.str (S (rowG m x d))).length ≤ 1000 := by rw [List.length_map]; omega
        -- each draws the thing
        refine ⟨_, rfl, pr, rfl, ⟨_, h5⟩, fun Q2 nQ2 => ?_⟩
        refine lc_empty (walk_tup (K := K) (a := pr) (xs := D.map fun d => V.str (S (rowG m x d)))) lenD nQ2 (fun H7 s7 => sameT s7 h5) ?_ ?_
        · intro z H7 hz s7 R hR
          obtain ⟨d, rfl, hd, dL⟩ := mem_at z hz
          have oko := ok_out (o := .drawn x (d : Int)) (N := 10 ^ 60) ⟨by omega, by show (d : Int).natAbs ≤ 10 ^ 60; omega⟩ (Nat.pow_lt_pow_right (by decide) (by decide))
          refine ⟨_, rfl, _, rfl, m, rowG m x d, rfl, m1, m2, by rw [rowG_len]; omega, rowG_bits m x d, fun po H8 s8 h8 => ?_⟩
          rw [row_due m1 x0 x1 hd] at h8
          refine ⟨_, rfl, .inl ⟨outD (.drawn x d), dp_out h8, oko.1.tell, Nat.le_trans oko.1.dep (by decide), oko.1.shown, ?_⟩⟩
          refine ⟨_, rfl, _, rfl, _, rfl, by rw [sn]; exact Nat.le_of_lt (small1000 (by omega)), ?_⟩
          rw [sn]
          refine ⟨by show 3 ≤ sizeLine; decide, fun pt2 npt2 => ?_⟩
          have s9 : Same H8 (upd H8 pt2 (.tup (outV (.drawn x (d : Int))))) := same_new npt2
          refine ⟨_, rfl, .inl ⟨outD (.drawn x d), dp_out (.inl (.inl upd_same)), oko.1.tell, Nat.le_trans oko.1.dep (by decide), oko.1.shown, ?_⟩⟩
          exact rNe_same ⟨_, rfl, hR _ (s8.trans s9)⟩
        · intro H7 s7 h7
          have h5 := sameT s7 h5
          have s37 := s36.trans s7
          have sh0 : SeqAt.shaped (.list []) = true := shI []
          have e0 : PyData.eqv (.list []) (.list []) = true := by simp [PyData.eqv, PyData.eqvAll]
          refine ⟨Nat.zero_le _, fun pe npe => ?_⟩
          have s8 : Same H7 (upd H7 pe (.lst [])) := same_new npe
          refine ⟨.list [], .list [], .lst (SqL.of (s8 _ _ h7)) .nil, .lst (SqL.of upd_same) .nil, sh0, sh0, ?_⟩
          rw [e0]
          refine ⟨_, rfl, iteF ?_⟩
          have h5 := sameT s8 h5
          have s38 := s37.trans s8
          generalize upd H7 pe (.lst []) = H8 at h5 s38 ⊢
          clear h7 s8 s37
          -- none of them is led to by a shorter one
          refine ⟨_, rfl, pr, rfl, ⟨_, h5⟩, fun Q3 nQ3 => ?_⟩
          refine lc_empty (walk_tup (K := K) (a := pr) (xs := D.map fun d => V.str (S (rowG m x d)))) lenD nQ3 (fun H9 s9 => sameT s9 h5) ?_ ?_
          · intro z H9 hz s9 R hR
            obtain ⟨d, rfl, hd, dL⟩ := mem_at z hz
            refine ⟨_, rfl, _, rfl, by rw [sn]; exact Nat.le_of_lt (small1000 (by omega)), ?_⟩
            rw [sn]
            refine ⟨_, _, rfl, rfl, _, rfl, ?_⟩
            by_cases d0 : 0 < d
            · refine ifT (decide_eq_true (by omega)) ?_
              have dp0 : 0 < (rowG (m : Int) x d).length := by rw [rowG_len]; exact d0
              have hb2 : ∀ g ∈ (rowG (m : Int) x d).dropLast, isBit g := fun g hg => rowG_bits _ _ _ g (List.dropLast_subset _ hg)
              have hl2 : (rowG (m : Int) x d).dropLast.length ≤ 400 := by rw [List.length_dropLast, rowG_len]; omega
              have on := row_due2 m1 x0 x1 hd d0
              refine ⟨_, rfl, _, rfl, _, rfl, _, rfl, S (rowG m x d), rfl, by rw [sn]; exact Nat.le_of_lt (small1000 (by omega)), m, (rowG m x d).dropLast, by rw [cutS_last _ dp0]; rfl, m1, m2, hl2, hb2, fun po H8 s8 h8 => ?_⟩
              have at0_ : atI (outV (due m (bitsOf (rowG m x d).dropLast))) 0 = some (.str "open") := by
                show some (V.str (due m (bitsOf (rowG m x d).dropLast)).nm) = _
                rw [on]
              refine ⟨po, _, _, _, rfl, rfl, h8, at0_, ?_⟩
              show rNe (V.str "open") (V.str "open") H8 (fun x H' => ∃ k, x = V.bl k ∧ R k H')
              exact rNe_same ⟨_, rfl, hR _ s8⟩
            · exact ifF (decide_eq_false (by omega)) (hR _ (Same.refl _))
          · intro H9 s9 h9
            have h5 := sameT s9 h5
            refine ⟨Nat.zero_le _, fun pe npe => ?_⟩
            have s8 : Same H9 (upd H9 pe (.lst [])) := same_new npe
            refine ⟨.list [], .list [], .lst (SqL.of (s8 _ _ h9)) .nil, .lst (SqL.of upd_same) .nil, sh0, sh0, ?_⟩
            rw [e0]
            refine ⟨_, rfl, iteF ?_⟩
            have h5 := sameT s8 h5
            have s39 := s38.trans (s9.trans s8)
            generalize upd H9 pe (.lst []) = H10 at h5 s39 ⊢
            clear h9 s8 s9 s38
            refine ⟨_, rfl, pr, rfl, ⟨_, h5⟩, fun Q4 nQ4 => ?_⟩
            refine lc_same (walk_tup (K := K) (a := pr) (xs := D.map fun d => V.str (S (rowG m x d)))) (by rw [List.length_map]; omega) nQ4 (fun i acc _ => acc = ((D.take i).map fun d : Nat => V.int (2 ^ (L - d)))) rfl (fun _ _ _ _ _ h => h) (fun H5 s5 => sameT s5 h5) ?_ ?_
            · rintro i z acc H5 H6 hi s5 rfl ⟨rfl, hz⟩ R N hR hN
              obtain ⟨d, hd, rfl⟩ : ∃ d, D[i]? = some d ∧ z = V.str (S (rowG m x d)) := by
                rw [List.getElem?_map] at hz
                obtain ⟨d, hd, e⟩ := Option.map_eq_some_iff.mp hz
                exact ⟨d, hd, e.symm⟩
              have dL : d ≤ L := by
                have := deps_lt (m := (m : Int)) (n := L + 1) (d := d) (by rw [hD]; exact List.mem_of_getElem? hd)
                omega
              refine ⟨wipe1 _ _ _, yesI ?_⟩
              refine ⟨_, rfl, _, rfl, _, rfl, by rw [sn]; exact Nat.le_of_lt (small1000 (by omega)), ?_⟩
              rw [sn]
              refine ⟨_, _, rfl, rfl, L - d, by show [V.int ((L : Int) - (d : Int))] = _; rw [show (L : Int) - (d : Int) = ((L - d : Nat) : Int) by omega], by omega, hR _ _ (Same.refl _) ?_⟩
              rw [List.take_succ, hd]
              simp
            · rintro acc H5 s5 hl2 hD5 rfl
              rw [List.length_map, List.take_length] at hD5
              have eS : (D.map fun d : Nat => V.int (2 ^ (L - d))) = (D.map fun d : Nat => (2 : Int) ^ (L - d)).map V.int := by rw [List.map_map]; rfl
              rw [eS] at hD5
              have ds := deps_sum m0 L
              rw [hD] at ds
              refine ⟨Q4, _, rfl, SqL.of hD5, ?_⟩
              have cd : CDivW ((2 : Int) ^ L) (m : Int) := wide_div (b := 200) m0 (Nat.lt_of_lt_of_le (by omega : ((m : Int)).natAbs < 10 ^ 60) (by decide +kernel)) (by decide) (by decide)
              refine ⟨_, rfl, L, rfl, by omega, _, rfl, _, _, rfl, rfl, cd, ?_⟩
              have qz := q H5 (s39.trans s5)
              refine ⟨rfl, ?_⟩
              rw [ds, decide_eq_true rfl]
              exact qz
end
end SG

namespace SG
open PySem PySem.Spec PyProof.Rows L2 TL
open SX (S S_tl S_len)
section
variable {P : Program} {w : World} {K : PySem.W.Frag} {mg : Str → Option Value} {base : Heap}
theorem isRound_of {α : Type} {o : Nat → α} {i n : Nat} (h1 : i < n) (h2 : o n = o i) (h3 : ∀ b, b < n → ∀ a, a < b → o a ≠ o b) : IsRound o i n := ⟨h1, h2, fun a b h g => h3 b g a h⟩
theorem round_12 : IsRound (restsAt 3 [1, 2]) 0 2 := isRound_of (by decide) (by decide +kernel) (by decide +kernel)
theorem round_3 : IsRound (pow2 ((3 : Nat) : Int)) 0 2 := isRound_of (by decide) (by decide +kernel) (by decide +kernel)
theorem round_9 : IsRound (pow2 ((9 : Nat) : Int)) 0 6 := isRound_of (by decide) (by decide +kernel) (by decide +kernel)
theorem round_12m : IsRound (pow2 ((12 : Nat) : Int)) 2 4 := isRound_of (by decide) (by decide +kernel) (by decide +kernel)
theorem meanV_of {o : Nat → Int} {i n : Nat} {a b : Int} (h1 : ratN (topM o i n) (botM i n) = a) (h2 : ratD (topM o i n) (botM i n) = b) : meanV o i n = [.int a, .int b] := by
  unfold meanV
  rw [h1, h2]
theorem mean_12 : meanV (openO 3 [1, 2]) 0 2 = [.int 2, .int 1] := meanV_of (by decide +kernel) (by decide +kernel)
theorem mean_3 : meanV (pow2 ((3 : Nat) : Int)) 0 2 = [.int 8, .int 3] := meanV_of (by decide +kernel) (by decide +kernel)
theorem mean_9 : meanV (pow2 ((9 : Nat) : Int)) 0 6 = [.int 14, .int 3] := meanV_of (by decide +kernel) (by decide +kernel)
theorem mean_12m : meanV (pow2 ((12 : Nat) : Int)) 2 4 = [.int 14, .int 3] := meanV_of (by decide +kernel) (by decide +kernel)
theorem sqt_ext2 {K : PySem.W.Frag} {H H2 : Hp} {p : Addr} {xs : List V} (k : LamX.ExtN H H2) (h : SqT K H p xs) : SqT K H2 p xs := sqt_ext k h
def fr3 : PyData := .list [fr 8 3, fr 14 3, fr 14 3]
theorem shaped_fr3 : SeqAt.shaped fr3 = true := by simp [fr3, fr, SeqAt.shaped, PyData.canLay0, PyData.canLayAll0, PyData.depth, PyData.depthAll]
theorem eqv_fr3 : PyData.eqv fr3 fr3 = true := by simp [fr3, fr, PyData.eqv, PyData.eqvAll]
theorem tabs_one {Po Pm Pb : Addr} (h1 : Po ≠ Pm) (h2 : Po ≠ Pb) (h3 : Pm ≠ Pb) : (∀ p ∈ tabs Po Pm Pb, p.1 = Po → p.2 = qLam "open_round") ∧ (∀ p ∈ tabs Po Pm Pb, p.1 = Pm → p.2 = qLam "mean") ∧ (∀ p ∈ tabs Po Pm Pb, p.1 = Pb → p.2 = qLam "mean_by") := by
  have key : ∀ p ∈ tabs Po Pm Pb, p = (Po, qLam "open_round") ∨ p = (Pm, qLam "mean") ∨ p = (Pb, qLam "mean_by") := by
    intro p hp
    rcases List.mem_cons.mp hp with rfl | hp
    · exact .inl rfl
    rcases List.mem_cons.mp hp with rfl | hp
    · exact .inr (.inl rfl)
    · exact .inr (.inr (List.mem_singleton.mp hp))
  refine ⟨fun p hp e => ?_, fun p hp e => ?_, fun p hp e => ?_⟩
  · rcases key p hp with rfl | rfl | rfl
    · rfl
    · exact absurd e.symm h1
    · exact absurd e.symm h2
  · rcases key p hp with rfl | rfl | rfl
    · exact absurd e h1
    · rfl
    · exact absurd e.symm h3
  · rcases key p hp with rfl | rfl | rfl
    · exact absurd e h2
    · exact absurd e h3
    · rfl
def spLaw (K : PySem.W.Frag) (cs : List (Addr × Addr)) : Sp := fun vs H Q _ => ∃ (a : Addr) (ns : List Int), vs = [.ref a] ∧ SqL K H a (ns.map V.int) ∧ ns.length ≤ 63 ∧ (∀ p ∈ cs, H p.2 = some (.tbl #[])) ∧ ∀ H2, Q (.bl true) H2
theorem ok_law {f a1 a2 a3 a4 a5 a6 a7 a8 a9 a10 a11 a12 a13 a14 a15 a16 a17 a18 co cm cb Po Pm Pb : Addr} {fd d1 d2 d3 d4 d5 d6 d7 d8 d9 d10 d11 d12 d13 d14 d15 d16 d17 d18 : FuncData} (hdg : base.NoDigits) (F : Fun K "law" "law" s_law f fd)
    (F__law_deck : Fun K "_law_deck" "_law_deck" s__law_deck a1 d1) (m__law_deck : mg "_law_deck" = some (.ref a1)) (b__law_deck : Binds K d1 ["_law_script"] [])
    (F__law_draw : Fun K "_law_draw" "_law_draw" s__law_draw a2 d2) (m__law_draw : mg "_law_draw" = some (.ref a2)) (b__law_draw : Binds K d2 ["_law_deck_here", "_law_much"] [])
    (F__law_pick : Fun K "_law_pick" "_law_pick" s__law_pick a3 d3) (m__law_pick : mg "_law_pick" = some (.ref a3)) (b__law_pick : Binds K d3 ["_law_deck_here", "_law_some"] [])
    (F__law_twos : Fun K "_law_twos" "_law_twos" s__law_twos a4 d4) (m__law_twos : mg "_law_twos" = some (.ref a4)) (b__law_twos : Binds K d4 ["_law_much"] [])
    (F__law_ratio : Fun K "_law_ratio" "_law_ratio" s__law_ratio a5 d5) (m__law_ratio : mg "_law_ratio" = some (.ref a5)) (b__law_ratio : Binds K d5 ["_law_top", "_law_bottom"] [])
    (F__law_summed : Fun K "_law_summed" "_law_summed" s__law_summed a6 d6) (m__law_summed : mg "_law_summed" = some (.ref a6)) (b__law_summed : Binds K d6 ["_law_opens"] [])
    (F__law_mean_by : Fun K "_law_mean_by" "_law_mean_by" s__law_mean_by a7 d7) (m__law_mean_by : mg "_law_mean_by" = some (.ref a7)) (b__law_mean_by : Binds K d7 ["_law_loads"] [])
    (F__law_round : Fun K "_law_round" "_law_round" s__law_round a8 d8) (m__law_round : mg "_law_round" = some (.ref a8)) (b__law_round : Binds K d8 ["_law_much"] [])
    (F__law_rows_right : Fun K "_law_rows_right" "_law_rows_right" s__law_rows_right a9 d9) (m__law_rows_right : mg "_law_rows_right" = some (.ref a9)) (b__law_rows_right : Binds K d9 ["_law_much", "_law_piece", "_law_limit"] [])
    (F__law_sums_right : Fun K "_law_sums_right" "_law_sums_right" s__law_sums_right a10 d10) (m__law_sums_right : mg "_law_sums_right" = some (.ref a10)) (b__law_sums_right : Binds K d10 ["_law_much", "_law_limit"] [])
    (F_draw : Fun K "draw" "draw" s_draw a11 d11) (m_draw : mg "draw" = some (.ref a11)) (b_draw : Binds K d11 ["many", "tosses"] [])
    (F_rows_to : Fun K "rows_to" "rows_to" s_rows_to a12 d12) (m_rows_to : mg "rows_to" = some (.ref a12)) (b_rows_to : Binds K d12 ["many", "index", "most"] []) (kb_rows_to_most_index_many : KBinds K d12 ["many", "index", "most"] ["most", "index", "many"] kwThree kwThree)
    (F_row_to : Fun K "row_to" "row_to" s_row_to a13 d13) (m_row_to : mg "row_to" = some (.ref a13)) (b_row_to : Binds K d13 ["leaves", "place"] [])
    (F_power_left : Fun K "power_left" "power_left" s_power_left a14 d14) (m_power_left : mg "power_left" = some (.ref a14)) (b_power_left : Binds K d14 ["depth", "many"] [])
    (F_open_at : Fun K "open_at" "open_at" s_open_at a15 d15) (m_open_at : mg "open_at" = some (.ref a15)) (b_open_at : Binds K d15 ["many", "depth"] [])
    (F_leaves_at : Fun K "leaves_at" "leaves_at" s_leaves_at a16 d16) (m_leaves_at : mg "leaves_at" = some (.ref a16)) (b_leaves_at : Binds K d16 ["many", "depth"] [])
    {a19 : Addr} {d19 : FuncData}
    (G_open_round : GFn P w K mg base CX0 4 a17 d17 ["many"] (spRound K (tabs Po Pm Pb))) (F_open_round : Fun K "open_round" "open_round" s_open_round a17 d17) (m_open_round : mg "open_round" = some (.ref a17)) (b_open_round : Binds K d17 ["many"] []) (kb_open_round_many : KBinds K d17 ["many"] ["many"] kwOne kwOne)
    (G_mean : GFn P w K mg base CX0 4 a18 d18 ["many"] (spMean K (tabs Po Pm Pb))) (F_mean : Fun K "mean" "mean" s_mean a18 d18) (m_mean : mg "mean" = some (.ref a18)) (b_mean : Binds K d18 ["many"] []) (kb_mean_many : KBinds K d18 ["many"] ["many"] kwOne kwOne)
    (G_mean_by : GFn P w K mg base CX0 4 a19 d19 ["weights"] (spMeanBy K (tabs Po Pm Pb))) (F_mean_by : Fun K "mean_by" "mean_by" s_mean_by a19 d19) (m_mean_by : mg "mean_by" = some (.ref a19)) (b_mean_by : Binds K d19 ["weights"] []) (T : Txt mg) :
    GFn P w K mg base CX0 6 f fd ["_law_script"] (spLaw K [(co, Po), (cm, Pm), (cb, Pb)]) := by
  have G__law_deck : GFn P w K mg base CX0 1 a1 d1 ["_law_script"] (spDeck K) := ok_deck F__law_deck T
  have G__law_draw : GFn P w K mg base CX0 1 a2 d2 ["_law_deck_here", "_law_much"] spDraw := ok_draw F__law_draw T
  have G__law_pick : GFn P w K mg base CX0 2 a3 d3 ["_law_deck_here", "_law_some"] (spPick K) := ok_pick F__law_pick F__law_draw m__law_draw b__law_draw T
  have G__law_round : GFn P w K mg base CX0 1 a8 d8 ["_law_much"] (spLawRound K) := ok_lawRound F__law_round T
  have G_open_at : GFn P w K mg base CX0 2 a15 d15 ["many", "depth"] spOpenAt := ok_open_at F_open_at F_power_left m_power_left b_power_left T
  have G__law_sums_right : GFn P w K mg base CX0 5 a10 d10 ["_law_much", "_law_limit"] (spSums K (tabs Po Pm Pb)) := ok_sums hdg F__law_sums_right F__law_twos m__law_twos b__law_twos F__law_ratio m__law_ratio b__law_ratio F__law_summed m__law_summed b__law_summed F__law_mean_by m__law_mean_by b__law_mean_by G_mean F_mean m_mean b_mean kb_mean_many F_power_left m_power_left b_power_left F_open_at m_open_at b_open_at F_leaves_at m_leaves_at b_leaves_at T
  have G__law_rows_right : GFn P w K mg base CX0 3 a9 d9 ["_law_much", "_law_piece", "_law_limit"] spRows := ok_rowsRight hdg F__law_rows_right F__law_twos m__law_twos b__law_twos F_draw m_draw b_draw F_rows_to m_rows_to b_rows_to kb_rows_to_most_index_many F_row_to m_row_to b_row_to T
  refine gfun_ok F sc_law (fun vs H Q E h => ?_) (fun cdv A outer s H vs Q E hgu hr h => ?_)
  · obtain ⟨a, ns, rfl, _⟩ := h
    rfl
  · obtain ⟨a, ns, rfl, hS, hlen, hT, q⟩ := h
    have nd := sc_law.nd
    have tT : LamX.Tabs (tabs Po Pm Pb) H := by
      intro p hp
      rcases List.mem_cons.mp hp with rfl | hp
      · exact LamX.TabS.nil (hT (co, Po) List.mem_cons_self)
      rcases List.mem_cons.mp hp with rfl | hp
      · exact LamX.TabS.nil (hT (cm, Pm) (List.mem_cons_of_mem _ List.mem_cons_self))
      · rw [List.mem_singleton.mp hp]
        exact LamX.TabS.nil (hT (cb, Pb) (List.mem_cons_of_mem _ (List.mem_cons_of_mem _ List.mem_cons_self)))
    refine ⟨_, (pss_cons (ps_set (i := 1) nd rfl (Or.inl rfl) (pe_g G__law_deck hgu (hr.mono (by decide)) (by rfl) m__law_deck F__law_deck.kp b__law_deck .nil pass0 (pa_cons (pv 0) pa_nil)))
      (pss_cons (ps_for PassesOwn.never rfl (pi_range1 rfl T.range (pa_cons pe_int pa_nil)) (pg_name (i := 2) nd rfl (Or.inl rfl))
        (pss_cons (ps_set (i := 3) nd rfl (Or.inl rfl) (pe_lst (pa_cons pe_int (pa_cons pe_int (pa_cons pe_int (pa_cons pe_int (pa_cons pe_int (pa_cons pe_int (pa_cons pe_int (pa_cons pe_int (pa_cons pe_int (pa_cons pe_int (pa_cons pe_int (pa_cons pe_int (pa_cons pe_int (pa_cons pe_int (pa_cons pe_int (pa_cons pe_int (pa_cons pe_int pa_nil)))))))))))))))))))
      (pss_cons (ps_set (i := 4) nd rfl (Or.inl rfl) (pe_g G__law_pick hgu (hr.mono (by decide)) (by rfl) m__law_pick F__law_pick.kp b__law_pick .nil pass0 (pa_cons (pv 1) (pa_cons (pe_op op_cat (pv 3) (pe_lst (pa_cons (pe_op op_add pe_int (pe_g G__law_draw hgu (hr.mono (by decide)) (by rfl) m__law_draw F__law_draw.kp b__law_draw .nil pass0 (pa_cons (pv 1) (pa_cons pe_int pa_nil)))) pa_nil))) pa_nil))))
      (pss_cons (ps_set (i := 5) nd rfl (Or.inl rfl) (pe_g G__law_round hgu (hr.mono (by decide)) (by rfl) m__law_round F__law_round.kp b__law_round .nil pass0 (pa_cons (pv 4) pa_nil)))
      (pss_cons (ps_if (pt_cmpR op_ne (pe_callB (k_repr (K := K) hdg hgu hr) (by rfl) T.repr (by decide +kernel) (pa_cons (pe_lst (pa_cons (pe_g G_open_round hgu (hr.mono (by decide)) (by rfl) m_open_round F_open_round.kp b_open_round .nil pass0 (pa_cons (pv 4) pa_nil)) (pa_cons (pe_gK0 G_open_round hgu (hr.mono (by decide)) (by rfl) m_open_round F_open_round.kp kb_open_round_many pass0 (pk_cons (pv 4) pk_nil)) pa_nil))) pa_nil)) (pe_callB (k_repr (K := K) hdg hgu hr) (by rfl) T.repr (by decide +kernel) (pa_cons (pe_lst (pa_cons (pv 5) (pa_cons (pv 5) pa_nil))) pa_nil)) (nomark _)) (pss_one (ps_ret pe_bl)) pss_nil)
      (pss_cons (ps_if (pt_cmpR op_ne (pe_g G_open_at hgu (hr.mono (by decide)) (by rfl) m_open_at F_open_at.kp b_open_at .nil pass0 (pa_cons (pv 4) (pa_cons (pe_ix (k_ixT (K := K)) (pv 5) pe_int (fun _ _ => rfl)) pa_nil))) (pe_g G_open_at hgu (hr.mono (by decide)) (by rfl) m_open_at F_open_at.kp b_open_at .nil pass0 (pa_cons (pv 4) (pa_cons (pe_op op_add (pe_ix (k_ixT (K := K)) (pv 5) pe_int (fun _ _ => rfl)) (pe_ix (k_ixT (K := K)) (pv 5) pe_int (fun _ _ => rfl))) pa_nil))) (nomark _)) (pss_one (ps_ret pe_bl)) pss_nil)
      (pss_cons (ps_if (pt_not (pt_val (pe_g G__law_sums_right hgu (hr.mono (by decide)) (by rfl) m__law_sums_right F__law_sums_right.kp b__law_sums_right .nil pass0 (pa_cons (pv 4) (pa_cons (pe_g G__law_draw hgu (hr.mono (by decide)) (by rfl) m__law_draw F__law_draw.kp b__law_draw .nil pass0 (pa_cons (pv 1) (pa_cons pe_int pa_nil))) pa_nil))))) (pss_one (ps_ret pe_bl)) pss_nil)
      (pss_one (ps_for PassesOwn.never rfl (pi_range1 rfl T.range (pa_cons pe_int pa_nil)) (pg_name (i := 6) nd rfl (Or.inl rfl))
        (pss_one (ps_if (pt_not (pt_val (pe_g G__law_rows_right hgu (hr.mono (by decide)) (by rfl) m__law_rows_right F__law_rows_right.kp b__law_rows_right .nil pass0 (pa_cons (pv 4) (pa_cons (pe_g G__law_draw hgu (hr.mono (by decide)) (by rfl) m__law_draw F__law_draw.kp b__law_draw .nil pass0 (pa_cons (pv 1) (pa_cons (pv 4) pa_nil))) (pa_cons (pe_g G__law_draw hgu (hr.mono (by decide)) (by rfl) m__law_draw F__law_draw.kp b__law_draw .nil pass0 (pa_cons (pv 1) (pa_cons pe_int pa_nil))) pa_nil)))))) (pss_one (ps_ret pe_bl)) pss_nil)))))))))))
      (pss_cons (ps_set (i := 4) nd rfl (Or.inl rfl) (pe_g G__law_pick hgu (hr.mono (by decide)) (by rfl) m__law_pick F__law_pick.kp b__law_pick .nil pass0 (pa_cons (pv 1) (pa_cons (pe_lst (pa_cons (pe_op op_add (pe_op op_pow pe_int pe_int) pe_int) (pa_cons (pe_op op_add (pe_op op_pow pe_int pe_int) pe_int) (pa_cons (pe_op op_mulW (pe_op op_pow pe_int pe_int) (pe_op op_pow pe_int pe_int)) (pa_cons (pe_op op_add (pe_op op_pow pe_int pe_int) pe_int) pa_nil))))) pa_nil))))
      (pss_cons (ps_set (i := 7) nd rfl (Or.inl rfl) (pe_g G__law_pick hgu (hr.mono (by decide)) (by rfl) m__law_pick F__law_pick.kp b__law_pick .nil pass0 (pa_cons (pv 1) (pa_cons (pe_lst (pa_cons pe_int (pa_cons pe_int (pa_cons (pe_op op_fdivW (pv 4) pe_int) (pa_cons (pe_op op_sub (pv 4) pe_int) pa_nil))))) pa_nil))))
      (pss_cons (ps_if (pt_not (pt_val (pe_g G__law_rows_right hgu (hr.mono (by decide)) (by rfl) m__law_rows_right F__law_rows_right.kp b__law_rows_right .nil pass0 (pa_cons (pv 4) (pa_cons (pv 7) (pa_cons (pe_g G__law_pick hgu (hr.mono (by decide)) (by rfl) m__law_pick F__law_pick.kp b__law_pick .nil pass0 (pa_cons (pv 1) (pa_cons (pe_lst (pa_cons pe_int (pa_cons pe_int (pa_cons pe_int (pa_cons pe_int (pa_cons pe_int pa_nil)))))) pa_nil))) pa_nil)))))) (pss_one (ps_ret pe_bl)) pss_nil)
      (pss_one (ps_ret (pe_and (pe_cmpR (k_eqD (K := K) hr.units) (pe_g G_mean_by hgu (hr.mono (by decide)) (by rfl) m_mean_by F_mean_by.kp b_mean_by .nil pass0 (pa_cons (pe_tup (pa_cons pe_int (pa_cons pe_int pa_nil))) pa_nil)) (pe_tup (pa_cons pe_int (pa_cons pe_int pa_nil))) (nomark _)) (pe_one (pe_cmpR (k_eqD (K := K) hr.units) (pe_lst (pa_cons (pe_g G_mean hgu (hr.mono (by decide)) (by rfl) m_mean F_mean.kp b_mean .nil pass0 (pa_cons pe_int pa_nil)) (pa_cons (pe_g G_mean hgu (hr.mono (by decide)) (by rfl) m_mean F_mean.kp b_mean .nil pass0 (pa_cons pe_int pa_nil)) (pa_cons (pe_g G_mean hgu (hr.mono (by decide)) (by rfl) m_mean F_mean.kp b_mean .nil pass0 (pa_cons pe_int pa_nil)) pa_nil)))) (pe_lst (pa_cons (pe_tup (pa_cons pe_int (pa_cons pe_int pa_nil))) (pa_cons (pe_tup (pa_cons pe_int (pa_cons pe_int pa_nil))) (pa_cons (pe_tup (pa_cons pe_int (pa_cons pe_int pa_nil))) pa_nil)))) (nomark _))))))))))), ?_⟩
    refine ⟨.ref a, rfl, a, ns, rfl, hS, hlen, fun d l H1 D1 s1 => ?_⟩
    refine ⟨3, rfl, by decide, by decide, for_range (lo := 0) (n := 3) (fun i σ HI => ∃ (y2 y3 y4 y5 y6 y7 : Option V), σ = [some (.ref a), some (.ref d), y2, y3, y4, y5, y6, y7] ∧ Sit (tabs Po Pm Pb) d l (i * 100) HI) ⟨none, none, none, none, none, none, rfl, D1, tT.ext s1⟩ ?_ ?_⟩
    · rintro i σ HI hi ⟨y2, y3, y4, y5, y6, y7, rfl, SI⟩
      have hd0 := SI.deck
      refine ⟨by show 17 ≤ sizeLine; decide, fun ps nps => ?_⟩
      have ss : Same HI (upd HI ps (.lst ([1, 2, 3, 5, 6, 7, 8, 9, 12, 24, 37, 64, 65, 96, 101, 127, 150].map V.int))) := same_new nps
      have hps : upd HI ps (.lst ([1, 2, 3, 5, 6, 7, 8, 9, 12, 24, 37, 64, 65, 96, 101, 127, 150].map V.int)) ps = some (.lst ([1, 2, 3, 5, 6, 7, 8, 9, 12, 24, 37, 64, 65, 96, 101, 127, 150].map V.int)) := upd_same
      have S1 := SI.same ss
      have nsl := SI.deck.ne nps
      change gName 3 (V.ref ps) _ (upd HI ps (.lst ([1, 2, 3, 5, 6, 7, 8, 9, 12, 24, 37, 64, 65, 96, 101, 127, 150].map V.int))) _
      generalize upd HI ps (.lst ([1, 2, 3, 5, 6, 7, 8, 9, 12, 24, 37, 64, 65, 96, 101, 127, 150].map V.int)) = HA at hps S1 ⊢
      refine ⟨_, rfl, _, rfl, _, rfl, d, l, _, 300, rfl, S1.deck, by omega, by decide, by decide, fun r H2 r0 r1 D2 k2 => ?_⟩
      have S2 := S1.kept D2 k2
      have hps2 := k2 _ _ hps nsl.1 nsl.2
      refine ⟨_, _, rfl, rfl, by show 1 ≤ sizeLine; decide, fun pl npl => ?_⟩
      have s3 : Same H2 (upd H2 pl (.lst [.int (1 + r)])) := same_new npl
      refine ⟨ps, pl, _, _, rfl, rfl, s3 _ _ hps2, upd_same, by show 17 + 1 ≤ sizeLine; decide, fun pz npz => ?_⟩
      have S3 := S2.same s3
      generalize upd H2 pl (.lst [.int (1 + r)]) = H3 at S3 npz ⊢
      have nz := S3.deck.ne npz
      have s4 : Same H3 (upd H3 pz (.lst ([1, 2, 3, 5, 6, 7, 8, 9, 12, 24, 37, 64, 65, 96, 101, 127, 150].map V.int ++ [.int (1 + r)]))) := same_new npz
      have S4 := S3.same s4
      refine ⟨d, l, _, S4.deck, by omega, .inl ⟨pz, _, rfl, SqL.of upd_same, nz.2, by simp, by show 17 + 1 ≤ 1000; decide, fun x H5 hx D5 k5 => ?_⟩⟩
      obtain ⟨m, rfl, m1, m3⟩ : ∃ m : Nat, x = .int m ∧ 1 ≤ m ∧ m ≤ 300 := by
        rcases List.mem_append.mp hx with hx | hx
        · obtain ⟨z, hz, rfl⟩ := List.mem_map.mp hx
          have key : ∀ z ∈ ([1, 2, 3, 5, 6, 7, 8, 9, 12, 24, 37, 64, 65, 96, 101, 127, 150] : List Int), 1 ≤ z ∧ z ≤ 300 := by decide
          have kz := key z hz
          exact ⟨z.toNat, by rw [Int.toNat_of_nonneg (by omega)], by omega, by omega⟩
        · obtain rfl := List.mem_singleton.mp hx
          exact ⟨(1 + r).toNat, by rw [Int.toNat_of_nonneg (by omega)], by omega, by omega⟩
      have S5 := S4.kept D5 k5
      clear k5 D5 s4 S4 nz npz S3 S2 k2 D2 hps2 s3 npl hx
      have m0 : (0 : Int) < m := by omega
      have m4 : m ≤ 400 := by omega
      -- the round
      refine ⟨_, rfl, m, rfl, m1, m4, fun pd i1 n1 Hb hr sb hd => ?_⟩
      have Sb := S5.same sb
      have few := few_pow m1 n1 hr.2.2
      have n1i := hr.1
      refine ⟨_, rfl, m, rfl, m1, m4, Sb.tabs, fun q1 i2 n2 H2 hr2 e2 t2 h2 => ?_⟩
      obtain ⟨rfl, rfl⟩ := hr.uniq hr2
      have S2 := Sb.ext e2 t2
      have hd := sqt_ext e2 hd
      refine ⟨_, rfl, m, rfl, m1, m4, S2.tabs, fun q2 i3 n3 H3 hr3 e3 t3 h3 => ?_⟩
      obtain ⟨rfl, rfl⟩ := hr.uniq hr3
      have S3 := S2.ext e3 t3
      have hd := sqt_ext e3 hd
      have h2 := sqt_ext e3 h2
      have okm : OkD (fr i1 ((n1 : Int) - i1)) := ok_fr (Nat.lt_of_lt_of_le (show (i1 : Int).natAbs < 2 ^ 100 by omega) (Nat.pow_le_pow_right (by decide) (by decide))) (Nat.lt_of_lt_of_le (show ((n1 : Int) - i1).natAbs < 2 ^ 100 by omega) (Nat.pow_le_pow_right (by decide) (by decide)))
      have okm2 := ok_fr2 okm okm
      refine ⟨by show 2 ≤ sizeLine; decide, fun u1 nu1 => ?_⟩
      have su1 : Same H3 (upd H3 u1 (.lst [.ref q1, .ref q2])) := same_new nu1
      refine ⟨_, rfl, .inl ⟨.list [fr i1 ((n1 : Int) - i1), fr i1 ((n1 : Int) - i1)], .lst (SqL.of upd_same) (.cons (dp_fr (sameT su1 h2)) (.cons (dp_fr (sameT su1 h3)) .nil)), okm2.tell, Nat.le_trans okm2.dep (by decide), okm2.shown, ?_⟩⟩
      have hd := sameT su1 hd
      have S4 := S3.same su1
      generalize upd H3 u1 (.lst [.ref q1, .ref q2]) = H4 at hd S4 ⊢
      refine ⟨_, rfl, _, rfl, by show 2 ≤ sizeLine; decide, fun u2 nu2 => ?_⟩
      have su2 : Same H4 (upd H4 u2 (.lst [.ref pd, .ref pd])) := same_new nu2
      have hd := sameT su2 hd
      refine ⟨_, rfl, .inl ⟨.list [fr i1 ((n1 : Int) - i1), fr i1 ((n1 : Int) - i1)], .lst (SqL.of upd_same) (.cons (dp_fr hd) (.cons (dp_fr hd) .nil)), okm2.tell, Nat.le_trans okm2.dep (by decide), okm2.shown, ?_⟩⟩
      have S6 := S4.same su2
      generalize upd H4 u2 (.lst [.ref pd, .ref pd]) = H6 at hd S6 ⊢
      refine rNe_same ⟨_, rfl, iteF ?_⟩
      clear h2 h3 S2 S3 S4 Sb S5 S1 SI
      -- open places come round
      have at0_ : atI [V.int i1, V.int ((n1 : Int) - i1)] 0 = some (.int i1) := rfl
      have at1_ : atI [V.int i1, V.int ((n1 : Int) - i1)] 1 = some (.int ((n1 : Int) - i1)) := rfl
      have rin : (2 : Int) ^ i1 % (m : Int) = 2 ^ n1 % (m : Int) := hr.2.1.symm
      refine ⟨_, rfl, _, rfl, pd, _, _, _, rfl, rfl, hd, at0_, m, i1, rfl, m1, by omega, by omega, fun H7 s7 => ?_⟩
      have hd := sameT s7 hd
      refine ⟨_, rfl, _, rfl, pd, _, _, _, rfl, rfl, hd, at0_, _, rfl, pd, _, _, _, rfl, rfl, hd, at1_, _, _, rfl, rfl, m, n1, by show [V.int (m : Int), V.int ((i1 : Int) + ((n1 : Int) - i1))] = _; rw [show (i1 : Int) + ((n1 : Int) - i1) = n1 by omega], m1, by omega, by omega, fun H8 s8 => ?_⟩
      refine rNe_int rin ⟨_, rfl, iteF ?_⟩
      have S8 := S6.same (s7.trans s8)
      clear hd S6 s7 s8
      -- sums
      refine ⟨_, rfl, _, rfl, d, l, _, 30, rfl, S8.deck, by omega, by decide, by decide, fun rL H9 l0 l1 D9 k9 => ?_⟩
      have S9 := S8.kept D9 k9
      refine ⟨m, rL.toNat, by rw [Int.toNat_of_nonneg l0]; rfl, m1, m3, by omega, S9.tabs, fun H10 x10 t10 => ?_⟩
      refine ⟨_, rfl, iteF ?_⟩
      have S10 := S9.ext x10 t10
      clear S8 S9 D9 k9
      refine ⟨2, rfl, by decide, by decide, for_range (lo := 0) (n := 2) (fun j σ HJ => ∃ z6 : Option V, σ = [some (.ref a), some (.ref d), some (.int (0 + i)), some (.ref ps), some (.int m), some (.ref pd), z6, y7] ∧ Sit (tabs Po Pm Pb) d l (i * 100 + 10 + j * 10) HJ) ⟨y6, rfl, S10.mono (by omega)⟩ ?_ ?_⟩
      · rintro j σ HJ hj ⟨z6, rfl, SJ⟩
        refine ⟨_, rfl, _, rfl, _, rfl, d, l, _, m, rfl, SJ.deck, by omega, m0, by omega, fun rx H11 x0 x1 D11 k11 => ?_⟩
        have S11 := SJ.kept D11 k11
        refine ⟨_, rfl, d, l, _, 41, rfl, S11.deck, by omega, by decide, by decide, fun ry H12 z0 z1 D12 k12 => ?_⟩
        have S12 := S11.kept D12 k12
        refine ⟨m, rx, ry.toNat, by rw [Int.toNat_of_nonneg z0]; rfl, m1, by omega, x0, x1, by omega, fun H13 s13 => ?_⟩
        refine ⟨_, rfl, iteF ?_⟩
        exact ⟨_, rfl, (S12.same s13).mono (by omega)⟩
      · rintro σ HJ ⟨z6, rfl, SJ⟩
        exact ⟨_, _, _, _, _, _, rfl, SJ.mono (by omega)⟩
    · rintro σ HI ⟨y2, y3, y4, y5, y6, y7, rfl, SI⟩
      have cp1 : CPow 2 60 := ⟨by decide, by decide, by decide⟩
      have cp2 : CPow 10 30 := ⟨by decide, by decide, by decide⟩
      have cp3 : CPow 2 64 := ⟨by decide, by decide, by decide⟩
      have cp4 : CPow 2 36 := ⟨by decide, by decide, by decide⟩
      have cp5 : CPow 10 59 := ⟨by decide, by decide, by decide⟩
      refine ⟨_, rfl, _, _, rfl, rfl, cp1, _, _, rfl, rfl, _, _, rfl, rfl, cp2, _, _, rfl, rfl, ?_⟩
      have cm : CMulW ((2 : Int) ^ (64 : Int).toNat) ((2 : Int) ^ (36 : Int).toNat) := wide_mul (a := 65) (b := 37) (by decide +kernel) (by decide +kernel) (by decide) (by decide) (by decide)
      refine ⟨_, _, rfl, rfl, cp3, _, _, rfl, rfl, cp4, _, _, rfl, rfl, cm, _, _, rfl, rfl, cp5, _, _, rfl, rfl, by show 4 ≤ sizeLine; decide, fun pf npf => ?_⟩
      have nf := SI.deck.ne npf
      have sf : Same HI (upd HI pf (.lst [.int (2 ^ (60 : Int).toNat + 1), .int (10 ^ (30 : Int).toNat + 7), .int (2 ^ (64 : Int).toNat * 2 ^ (36 : Int).toNat), .int (10 ^ (59 : Int).toNat + 3)])) := same_new npf
      have S1 := SI.same sf
      refine ⟨d, l, _, S1.deck, by omega, .inl ⟨pf, _, rfl, SqL.of upd_same, nf.2, by simp, by show 4 ≤ 1000; decide, fun v H5 hx D5 k5 => ?_⟩⟩
      have S5 := S1.kept D5 k5
      obtain ⟨m, rfl, m5, m6⟩ : ∃ m : Nat, v = .int m ∧ 5 ≤ m ∧ m < 10 ^ 60 := by
        rcases List.mem_cons.mp hx with rfl | hx
        · exact ⟨2 ^ 60 + 1, congrArg V.int (by decide +kernel), by decide +kernel, by decide +kernel⟩
        rcases List.mem_cons.mp hx with rfl | hx
        · exact ⟨10 ^ 30 + 7, congrArg V.int (by decide +kernel), by decide +kernel, by decide +kernel⟩
        rcases List.mem_cons.mp hx with rfl | hx
        · exact ⟨2 ^ 100, congrArg V.int (by decide +kernel), by decide +kernel, by decide +kernel⟩
        obtain rfl := List.mem_singleton.mp hx
        exact ⟨10 ^ 59 + 3, congrArg V.int (by decide +kernel), by decide +kernel, by decide +kernel⟩
      clear hx D5 k5 S1 sf
      have m0 : (0 : Int) < m := by omega
      -- which thing
      refine ⟨_, rfl, _, rfl, _, _, rfl, rfl, wide_div (b := 2) (by decide) (by decide) (by decide) (by decide), _, rfl, _, _, rfl, rfl, by show 4 ≤ sizeLine; decide, fun pg npg => ?_⟩
      have ng := S5.deck.ne npg
      have sg : Same H5 (upd H5 pg (.lst [.int 0, .int 1, .int ((m : Int) / 3), .int ((m : Int) - 1)])) := same_new npg
      have S6 := S5.same sg
      refine ⟨d, l, _, S6.deck, by omega, .inl ⟨pg, _, rfl, SqL.of upd_same, ng.2, by simp, by show 4 ≤ 1000; decide, fun v H7 hx D7 k7 => ?_⟩⟩
      have S7 := S6.kept D7 k7
      obtain ⟨x, rfl, x0, x1⟩ : ∃ x : Int, v = .int x ∧ 0 ≤ x ∧ x < m := by
        rcases List.mem_cons.mp hx with rfl | hx
        · exact ⟨0, rfl, by omega, by omega⟩
        rcases List.mem_cons.mp hx with rfl | hx
        · exact ⟨1, rfl, by omega, by omega⟩
        rcases List.mem_cons.mp hx with rfl | hx
        · exact ⟨(m : Int) / 3, rfl, by omega, by omega⟩
        obtain rfl := List.mem_singleton.mp hx
        exact ⟨(m : Int) - 1, rfl, by omega, by omega⟩
      clear hx D7 k7 S6 sg
      refine ⟨_, rfl, _, rfl, _, rfl, by show 5 ≤ sizeLine; decide, fun ph nph => ?_⟩
      have nh := S7.deck.ne nph
      have sh : Same H7 (upd H7 ph (.lst ([100, 120, 200, 240, 400].map V.int))) := same_new nph
      have S8 := S7.same sh
      refine ⟨d, l, _, S8.deck, by omega, .inl ⟨ph, [100, 120, 200, 240, 400].map V.int, rfl, SqL.of upd_same, nh.2, by simp, by show 5 ≤ 1000; decide, fun v H9 hx D9 k9 => ?_⟩⟩
      have S9 := S8.kept D9 k9
      obtain ⟨L, rfl, hL⟩ : ∃ L : Nat, v = .int L ∧ L ≤ 400 := by
        obtain ⟨z, hz, rfl⟩ := List.mem_map.mp hx
        have key : ∀ z ∈ ([100, 120, 200, 240, 400] : List Int), 1 ≤ z ∧ z ≤ 400 := by decide
        have kz := key z hz
        exact ⟨z.toNat, by rw [Int.toNat_of_nonneg (by omega)], by omega⟩
      refine ⟨m, x, L, rfl, by omega, m6, x0, x1, hL, fun H10 s10 => ?_⟩
      refine ⟨_, rfl, iteF ?_⟩
      have S10 := S9.same s10
      clear hx D9 k9 S8 S9 S7 S5 SI
      refine ⟨by show 2 ≤ sizeLine; decide, fun pt npt => ?_⟩
      have st : Same H10 (upd H10 pt (.tup ([1, 2].map V.int))) := same_new npt
      have S11 := S10.same st
      refine ⟨pt, [1, 2], 3, rfl, .inl (.inl upd_same), rfl, by decide, by decide, by decide, S11.tabs, fun q1 i1 n1 H12 hr1 e1 t1 h1 => ?_⟩
      obtain ⟨rfl, rfl⟩ := round_12.uniq hr1
      rw [mean_12] at h1
      refine ⟨by show 2 ≤ sizeLine; decide, fun pu npu => ?_⟩
      have su : Same H12 (upd H12 pu (.tup [.int 2, .int 1])) := same_new npu
      refine ⟨fr 2 1, fr 2 1, dp_fr (sameT su h1), dp_fr (.inl (.inl upd_same)), shaped_fr _ _, shaped_fr _ _, ?_⟩
      rw [eqv_fr]
      refine ⟨_, rfl, ifT rfl ?_⟩
      have t2 := t1.ext su
      generalize upd H12 pu (.tup [.int 2, .int 1]) = H13 at t2 ⊢
      refine ⟨3, rfl, by decide, by decide, t2, fun p3 i3 n3 H14 hr3 e3 t3 h3 => ?_⟩
      obtain ⟨rfl, rfl⟩ := round_3.uniq hr3
      rw [mean_3] at h3
      refine ⟨9, rfl, by decide, by decide, t3, fun p9 i9 n9 H15 hr9 e9 t9 h9 => ?_⟩
      obtain ⟨rfl, rfl⟩ := round_9.uniq hr9
      rw [mean_9] at h9
      refine ⟨12, rfl, by decide, by decide, t9, fun p12 i12 n12 H16 hr12 e12 t12 h12 => ?_⟩
      obtain ⟨rfl, rfl⟩ := round_12m.uniq hr12
      rw [mean_12m] at h12
      have h3 := sqt_ext (e9.trans e12) h3
      have h9 := sqt_ext e12 h9
      refine ⟨by show 3 ≤ sizeLine; decide, fun u1 nu1 => ?_⟩
      have s1 : Same H16 (upd H16 u1 (.lst [.ref p3, .ref p9, .ref p12])) := same_new nu1
      have l1 : upd H16 u1 (.lst [.ref p3, .ref p9, .ref p12]) u1 = some (.lst [.ref p3, .ref p9, .ref p12]) := upd_same
      generalize upd H16 u1 (.lst [.ref p3, .ref p9, .ref p12]) = G1 at s1 l1 ⊢
      refine ⟨by show 2 ≤ sizeLine; decide, fun v1 nv1 => ?_⟩
      have s2 : Same G1 (upd G1 v1 (.tup [.int 8, .int 3])) := same_new nv1
      have l2 : upd G1 v1 (.tup [.int 8, .int 3]) v1 = some (.tup [.int 8, .int 3]) := upd_same
      generalize upd G1 v1 (.tup [.int 8, .int 3]) = G2 at s2 l2 ⊢
      refine ⟨by show 2 ≤ sizeLine; decide, fun v2 nv2 => ?_⟩
      have s3 : Same G2 (upd G2 v2 (.tup [.int 14, .int 3])) := same_new nv2
      have l3 : upd G2 v2 (.tup [.int 14, .int 3]) v2 = some (.tup [.int 14, .int 3]) := upd_same
      generalize upd G2 v2 (.tup [.int 14, .int 3]) = G3 at s3 l3 ⊢
      refine ⟨by show 2 ≤ sizeLine; decide, fun v3 nv3 => ?_⟩
      have s4 : Same G3 (upd G3 v3 (.tup [.int 14, .int 3])) := same_new nv3
      have l4 : upd G3 v3 (.tup [.int 14, .int 3]) v3 = some (.tup [.int 14, .int 3]) := upd_same
      generalize upd G3 v3 (.tup [.int 14, .int 3]) = G4 at s4 l4 ⊢
      refine ⟨by show 3 ≤ sizeLine; decide, fun u2 nu2 => ?_⟩
      have s5 : Same G4 (upd G4 u2 (.lst [.ref v1, .ref v2, .ref v3])) := same_new nu2
      have l5 : upd G4 u2 (.lst [.ref v1, .ref v2, .ref v3]) u2 = some (.lst [.ref v1, .ref v2, .ref v3]) := upd_same
      generalize upd G4 u2 (.lst [.ref v1, .ref v2, .ref v3]) = G5 at s5 l5 ⊢
      have s25 := s2.trans (s3.trans (s4.trans s5))
      have s15 := s1.trans s25
      have tp : ∀ {q : Addr} {zs : List V}, G5 q = some (.tup zs) → SqT K G5 q zs := fun h => .inl (.inl h)
      refine ⟨fr3, fr3, .lst (SqL.of (s25 _ _ l1)) (.cons (dp_fr (sameT s15 h3)) (.cons (dp_fr (sameT s15 h9)) (.cons (dp_fr (sameT s15 h12)) .nil))), .lst (SqL.of l5) (.cons (dp_fr (tp ((s3.trans (s4.trans s5)) _ _ l2))) (.cons (dp_fr (tp ((s4.trans s5) _ _ l3))) (.cons (dp_fr (tp (s5 _ _ l4))) .nil))), shaped_fr3, shaped_fr3, ?_⟩
      rw [eqv_fr3]
      exact q _
end
end SG

namespace SG
open PySem PySem.Spec PyProof.Rows L2
theorem kwOne_args {α : Type} {us ws : List α} (h : (kwOne us ws).length = 1) : ∃ x, us = [] ∧ ws = [x] := by
  match us, ws, h with
  | [], [x], _ => exact ⟨x, rfl, rfl⟩
  | [], [], h => exact absurd h (by simp [kwOne])
  | [], _ :: _ :: _, h => exact absurd h (by simp [kwOne])
  | _ :: _, _, h => exact absurd h (by simp [kwOne])
theorem kwTurn_args {α : Type} {us ws : List α} (h : (kwTurn us ws).length = 2) : ∃ x y, us = [] ∧ ws = [x, y] := by
  match us, ws, h with
  | [], [x, y], _ => exact ⟨x, y, rfl, rfl⟩
  | [], [], h => exact absurd h (by simp [kwTurn])
  | [], [_], h => exact absurd h (by simp [kwTurn])
  | [], _ :: _ :: _ :: _, h => exact absurd h (by simp [kwTurn])
  | _ :: _, _, h => exact absurd h (by simp [kwTurn])
theorem all_mk {l : PySem.W.OpenLaw} {w : World} {K : PySem.W.Frag} {h : Heap} {mg : Str → Option Value} {fa f_fraction f_draw f_onward_rests f_power_left f_open_at f_leaves_at f_open_round f_round_from f_rows_to f_row_to f_mean f_mean_by f_summed_by_halves f_weighed f__law_deck f__law_draw f__law_pick f__law_twos f__law_ratio f__law_summed f__law_mean_by f__law_round f__law_rows_right f__law_sums_right f_law : Addr} (X : K.In h) (G : h.Ns mainGlobals mg) (hfa : mg "law" = some (.ref fa))
    {ts : List Addr} {x_open_round P_open_round x_mean P_mean x_mean_by P_mean_by : Addr}
    {od_fraction an_fraction od_draw an_draw od_onward_rests an_onward_rests od_power_left an_power_left od_open_at an_open_at od_leaves_at an_leaves_at od_open_round an_open_round od_round_from an_round_from od_rows_to an_rows_to od_row_to an_row_to od_mean an_mean od_mean_by an_mean_by od_summed_by_halves an_summed_by_halves od_weighed an_weighed od__law_deck an__law_deck od__law_draw an__law_draw od__law_pick an__law_pick od__law_twos an__law_twos od__law_ratio an__law_ratio od__law_summed an__law_summed od__law_mean_by an__law_mean_by od__law_round an__law_round od__law_rows_right an__law_rows_right od__law_sums_right an__law_sums_right od_law an_law : Option Addr} {sl_fraction sl_draw sl_onward_rests sl_power_left sl_open_at sl_leaves_at sl_open_round sl_round_from sl_rows_to sl_row_to sl_mean sl_mean_by sl_summed_by_halves sl_weighed sl__law_deck sl__law_draw sl__law_pick sl__law_twos sl__law_ratio sl__law_summed sl__law_mean_by sl__law_round sl__law_rows_right sl__law_sums_right sl_law : Array (Option Value)} {oc_fraction kV_fraction dc_fraction pm_fraction cd_fraction ct_fraction oc_draw kV_draw dc_draw pm_draw cd_draw ct_draw oc_onward_rests kV_onward_rests dc_onward_rests pm_onward_rests cd_onward_rests ct_onward_rests oc_power_left kV_power_left dc_power_left pm_power_left cd_power_left ct_power_left oc_open_at kV_open_at dc_open_at pm_open_at cd_open_at ct_open_at oc_leaves_at kV_leaves_at dc_leaves_at pm_leaves_at cd_leaves_at ct_leaves_at oc_open_round kV_open_round dc_open_round pm_open_round ct_open_round oc_round_from kV_round_from dc_round_from pm_round_from cd_round_from ct_round_from oc_rows_to kV_rows_to dc_rows_to pm_rows_to cd_rows_to ct_rows_to oc_row_to kV_row_to dc_row_to pm_row_to cd_row_to ct_row_to oc_mean kV_mean dc_mean pm_mean ct_mean oc_mean_by kV_mean_by dc_mean_by pm_mean_by ct_mean_by oc_summed_by_halves kV_summed_by_halves dc_summed_by_halves pm_summed_by_halves cd_summed_by_halves ct_summed_by_halves oc_weighed kV_weighed dc_weighed pm_weighed cd_weighed ct_weighed oc__law_deck kV__law_deck dc__law_deck pm__law_deck cd__law_deck ct__law_deck oc__law_draw kV__law_draw dc__law_draw pm__law_draw cd__law_draw ct__law_draw oc__law_pick kV__law_pick dc__law_pick pm__law_pick cd__law_pick ct__law_pick oc__law_twos kV__law_twos dc__law_twos pm__law_twos cd__law_twos ct__law_twos oc__law_ratio kV__law_ratio dc__law_ratio pm__law_ratio cd__law_ratio ct__law_ratio oc__law_summed kV__law_summed dc__law_summed pm__law_summed cd__law_summed ct__law_summed oc__law_mean_by kV__law_mean_by dc__law_mean_by pm__law_mean_by cd__law_mean_by ct__law_mean_by oc__law_round kV__law_round dc__law_round pm__law_round cd__law_round ct__law_round oc__law_rows_right kV__law_rows_right dc__law_rows_right pm__law_rows_right cd__law_rows_right ct__law_rows_right oc__law_sums_right kV__law_sums_right dc__law_sums_right pm__law_sums_right cd__law_sums_right ct__law_sums_right oc_law kV_law dc_law pm_law cd_law ct_law : Value}
    (a_fraction : PySem.W.nsIn K mainGlobals "fraction" = some (some (.ref f_fraction))) (l_fraction : K.lookup f_fraction = some ⟨oc_fraction, od_fraction, .func (PySem.W.fnOf "fraction" "fraction" (defArgs s_fraction) (defBody s_fraction) (defScope s_fraction) .none kV_fraction dc_fraction pm_fraction an_fraction cd_fraction ct_fraction), sl_fraction⟩) (c_fraction : PySem.W.codeIn K cd_fraction "fraction" = true) (k_fraction : PySem.W.keepIn K (.ref f_fraction) = true)
    (a_draw : PySem.W.nsIn K mainGlobals "draw" = some (some (.ref f_draw))) (l_draw : K.lookup f_draw = some ⟨oc_draw, od_draw, .func (PySem.W.fnOf "draw" "draw" (defArgs s_draw) (defBody s_draw) (defScope s_draw) .none kV_draw dc_draw pm_draw an_draw cd_draw ct_draw), sl_draw⟩) (c_draw : PySem.W.codeIn K cd_draw "draw" = true) (k_draw : PySem.W.keepIn K (.ref f_draw) = true)
    (a_onward_rests : PySem.W.nsIn K mainGlobals "onward_rests" = some (some (.ref f_onward_rests))) (l_onward_rests : K.lookup f_onward_rests = some ⟨oc_onward_rests, od_onward_rests, .func (PySem.W.fnOf "onward_rests" "onward_rests" (defArgs s_onward_rests) (defBody s_onward_rests) (defScope s_onward_rests) .none kV_onward_rests dc_onward_rests pm_onward_rests an_onward_rests cd_onward_rests ct_onward_rests), sl_onward_rests⟩) (c_onward_rests : PySem.W.codeIn K cd_onward_rests "onward_rests" = true) (k_onward_rests : PySem.W.keepIn K (.ref f_onward_rests) = true)
    (a_power_left : PySem.W.nsIn K mainGlobals "power_left" = some (some (.ref f_power_left))) (l_power_left : K.lookup f_power_left = some ⟨oc_power_left, od_power_left, .func (PySem.W.fnOf "power_left" "power_left" (defArgs s_power_left) (defBody s_power_left) (defScope s_power_left) .none kV_power_left dc_power_left pm_power_left an_power_left cd_power_left ct_power_left), sl_power_left⟩) (c_power_left : PySem.W.codeIn K cd_power_left "power_left" = true) (k_power_left : PySem.W.keepIn K (.ref f_power_left) = true)
    (a_open_at : PySem.W.nsIn K mainGlobals "open_at" = some (some (.ref f_open_at))) (l_open_at : K.lookup f_open_at = some ⟨oc_open_at, od_open_at, .func (PySem.W.fnOf "open_at" "open_at" (defArgs s_open_at) (defBody s_open_at) (defScope s_open_at) .none kV_open_at dc_open_at pm_open_at an_open_at cd_open_at ct_open_at), sl_open_at⟩) (c_open_at : PySem.W.codeIn K cd_open_at "open_at" = true) (k_open_at : PySem.W.keepIn K (.ref f_open_at) = true)
    (a_leaves_at : PySem.W.nsIn K mainGlobals "leaves_at" = some (some (.ref f_leaves_at))) (l_leaves_at : K.lookup f_leaves_at = some ⟨oc_leaves_at, od_leaves_at, .func (PySem.W.fnOf "leaves_at" "leaves_at" (defArgs s_leaves_at) (defBody s_leaves_at) (defScope s_leaves_at) .none kV_leaves_at dc_leaves_at pm_leaves_at an_leaves_at cd_leaves_at ct_leaves_at), sl_leaves_at⟩) (c_leaves_at : PySem.W.codeIn K cd_leaves_at "leaves_at" = true) (k_leaves_at : PySem.W.keepIn K (.ref f_leaves_at) = true)
    (a_open_round : PySem.W.nsIn K mainGlobals "open_round" = some (some (.ref f_open_round))) (l_open_round : K.lookup f_open_round = some ⟨oc_open_round, od_open_round, .func (PySem.W.fnOf "open_round" "open_round" (defArgs s_open_round) (defBody s_open_round) (defScope s_open_round) .none kV_open_round dc_open_round pm_open_round an_open_round (.ref x_open_round) ct_open_round), sl_open_round⟩) (c_open_round : PySem.W.codeIn K (.ref x_open_round) "open_round" = true) (k_open_round : PySem.W.keepIn K (.ref f_open_round) = true)
    (a_round_from : PySem.W.nsIn K mainGlobals "round_from" = some (some (.ref f_round_from))) (l_round_from : K.lookup f_round_from = some ⟨oc_round_from, od_round_from, .func (PySem.W.fnOf "round_from" "round_from" (defArgs s_round_from) (defBody s_round_from) (defScope s_round_from) .none kV_round_from dc_round_from pm_round_from an_round_from cd_round_from ct_round_from), sl_round_from⟩) (c_round_from : PySem.W.codeIn K cd_round_from "round_from" = true) (k_round_from : PySem.W.keepIn K (.ref f_round_from) = true)
    (a_rows_to : PySem.W.nsIn K mainGlobals "rows_to" = some (some (.ref f_rows_to))) (l_rows_to : K.lookup f_rows_to = some ⟨oc_rows_to, od_rows_to, .func (PySem.W.fnOf "rows_to" "rows_to" (defArgs s_rows_to) (defBody s_rows_to) (defScope s_rows_to) .none kV_rows_to dc_rows_to pm_rows_to an_rows_to cd_rows_to ct_rows_to), sl_rows_to⟩) (c_rows_to : PySem.W.codeIn K cd_rows_to "rows_to" = true) (k_rows_to : PySem.W.keepIn K (.ref f_rows_to) = true)
    (a_row_to : PySem.W.nsIn K mainGlobals "row_to" = some (some (.ref f_row_to))) (l_row_to : K.lookup f_row_to = some ⟨oc_row_to, od_row_to, .func (PySem.W.fnOf "row_to" "row_to" (defArgs s_row_to) (defBody s_row_to) (defScope s_row_to) .none kV_row_to dc_row_to pm_row_to an_row_to cd_row_to ct_row_to), sl_row_to⟩) (c_row_to : PySem.W.codeIn K cd_row_to "row_to" = true) (k_row_to : PySem.W.keepIn K (.ref f_row_to) = true)
    (a_mean : PySem.W.nsIn K mainGlobals "mean" = some (some (.ref f_mean))) (l_mean : K.lookup f_mean = some ⟨oc_mean, od_mean, .func (PySem.W.fnOf "mean" "mean" (defArgs s_mean) (defBody s_mean) (defScope s_mean) .none kV_mean dc_mean pm_mean an_mean (.ref x_mean) ct_mean), sl_mean⟩) (c_mean : PySem.W.codeIn K (.ref x_mean) "mean" = true) (k_mean : PySem.W.keepIn K (.ref f_mean) = true)
    (a_mean_by : PySem.W.nsIn K mainGlobals "mean_by" = some (some (.ref f_mean_by))) (l_mean_by : K.lookup f_mean_by = some ⟨oc_mean_by, od_mean_by, .func (PySem.W.fnOf "mean_by" "mean_by" (defArgs s_mean_by) (defBody s_mean_by) (defScope s_mean_by) .none kV_mean_by dc_mean_by pm_mean_by an_mean_by (.ref x_mean_by) ct_mean_by), sl_mean_by⟩) (c_mean_by : PySem.W.codeIn K (.ref x_mean_by) "mean_by" = true) (k_mean_by : PySem.W.keepIn K (.ref f_mean_by) = true)
    (a_summed_by_halves : PySem.W.nsIn K mainGlobals "summed_by_halves" = some (some (.ref f_summed_by_halves))) (l_summed_by_halves : K.lookup f_summed_by_halves = some ⟨oc_summed_by_halves, od_summed_by_halves, .func (PySem.W.fnOf "summed_by_halves" "summed_by_halves" (defArgs s_summed_by_halves) (defBody s_summed_by_halves) (defScope s_summed_by_halves) .none kV_summed_by_halves dc_summed_by_halves pm_summed_by_halves an_summed_by_halves cd_summed_by_halves ct_summed_by_halves), sl_summed_by_halves⟩) (c_summed_by_halves : PySem.W.codeIn K cd_summed_by_halves "summed_by_halves" = true) (k_summed_by_halves : PySem.W.keepIn K (.ref f_summed_by_halves) = true)
    (a_weighed : PySem.W.nsIn K mainGlobals "weighed" = some (some (.ref f_weighed))) (l_weighed : K.lookup f_weighed = some ⟨oc_weighed, od_weighed, .func (PySem.W.fnOf "weighed" "weighed" (defArgs s_weighed) (defBody s_weighed) (defScope s_weighed) .none kV_weighed dc_weighed pm_weighed an_weighed cd_weighed ct_weighed), sl_weighed⟩) (c_weighed : PySem.W.codeIn K cd_weighed "weighed" = true) (k_weighed : PySem.W.keepIn K (.ref f_weighed) = true)
    (a__law_deck : PySem.W.nsIn K mainGlobals "_law_deck" = some (some (.ref f__law_deck))) (l__law_deck : K.lookup f__law_deck = some ⟨oc__law_deck, od__law_deck, .func (PySem.W.fnOf "_law_deck" "_law_deck" (defArgs s__law_deck) (defBody s__law_deck) (defScope s__law_deck) .none kV__law_deck dc__law_deck pm__law_deck an__law_deck cd__law_deck ct__law_deck), sl__law_deck⟩) (c__law_deck : PySem.W.codeIn K cd__law_deck "_law_deck" = true) (k__law_deck : PySem.W.keepIn K (.ref f__law_deck) = true)
    (a__law_draw : PySem.W.nsIn K mainGlobals "_law_draw" = some (some (.ref f__law_draw))) (l__law_draw : K.lookup f__law_draw = some ⟨oc__law_draw, od__law_draw, .func (PySem.W.fnOf "_law_draw" "_law_draw" (defArgs s__law_draw) (defBody s__law_draw) (defScope s__law_draw) .none kV__law_draw dc__law_draw pm__law_draw an__law_draw cd__law_draw ct__law_draw), sl__law_draw⟩) (c__law_draw : PySem.W.codeIn K cd__law_draw "_law_draw" = true) (k__law_draw : PySem.W.keepIn K (.ref f__law_draw) = true)
    (a__law_pick : PySem.W.nsIn K mainGlobals "_law_pick" = some (some (.ref f__law_pick))) (l__law_pick : K.lookup f__law_pick = some ⟨oc__law_pick, od__law_pick, .func (PySem.W.fnOf "_law_pick" "_law_pick" (defArgs s__law_pick) (defBody s__law_pick) (defScope s__law_pick) .none kV__law_pick dc__law_pick pm__law_pick an__law_pick cd__law_pick ct__law_pick), sl__law_pick⟩) (c__law_pick : PySem.W.codeIn K cd__law_pick "_law_pick" = true) (k__law_pick : PySem.W.keepIn K (.ref f__law_pick) = true)
    (a__law_twos : PySem.W.nsIn K mainGlobals "_law_twos" = some (some (.ref f__law_twos))) (l__law_twos : K.lookup f__law_twos = some ⟨oc__law_twos, od__law_twos, .func (PySem.W.fnOf "_law_twos" "_law_twos" (defArgs s__law_twos) (defBody s__law_twos) (defScope s__law_twos) .none kV__law_twos dc__law_twos pm__law_twos an__law_twos cd__law_twos ct__law_twos), sl__law_twos⟩) (c__law_twos : PySem.W.codeIn K cd__law_twos "_law_twos" = true) (k__law_twos : PySem.W.keepIn K (.ref f__law_twos) = true)
    (a__law_ratio : PySem.W.nsIn K mainGlobals "_law_ratio" = some (some (.ref f__law_ratio))) (l__law_ratio : K.lookup f__law_ratio = some ⟨oc__law_ratio, od__law_ratio, .func (PySem.W.fnOf "_law_ratio" "_law_ratio" (defArgs s__law_ratio) (defBody s__law_ratio) (defScope s__law_ratio) .none kV__law_ratio dc__law_ratio pm__law_ratio an__law_ratio cd__law_ratio ct__law_ratio), sl__law_ratio⟩) (c__law_ratio : PySem.W.codeIn K cd__law_ratio "_law_ratio" = true) (k__law_ratio : PySem.W.keepIn K (.ref f__law_ratio) = true)
    (a__law_summed : PySem.W.nsIn K mainGlobals "_law_summed" = some (some (.ref f__law_summed))) (l__law_summed : K.lookup f__law_summed = some ⟨oc__law_summed, od__law_summed, .func (PySem.W.fnOf "_law_summed" "_law_summed" (defArgs s__law_summed) (defBody s__law_summed) (defScope s__law_summed) .none kV__law_summed dc__law_summed pm__law_summed an__law_summed cd__law_summed ct__law_summed), sl__law_summed⟩) (c__law_summed : PySem.W.codeIn K cd__law_summed "_law_summed" = true) (k__law_summed : PySem.W.keepIn K (.ref f__law_summed) = true)
    (a__law_mean_by : PySem.W.nsIn K mainGlobals "_law_mean_by" = some (some (.ref f__law_mean_by))) (l__law_mean_by : K.lookup f__law_mean_by = some ⟨oc__law_mean_by, od__law_mean_by, .func (PySem.W.fnOf "_law_mean_by" "_law_mean_by" (defArgs s__law_mean_by) (defBody s__law_mean_by) (defScope s__law_mean_by) .none kV__law_mean_by dc__law_mean_by pm__law_mean_by an__law_mean_by cd__law_mean_by ct__law_mean_by), sl__law_mean_by⟩) (c__law_mean_by : PySem.W.codeIn K cd__law_mean_by "_law_mean_by" = true) (k__law_mean_by : PySem.W.keepIn K (.ref f__law_mean_by) = true)
    (a__law_round : PySem.W.nsIn K mainGlobals "_law_round" = some (some (.ref f__law_round))) (l__law_round : K.lookup f__law_round = some ⟨oc__law_round, od__law_round, .func (PySem.W.fnOf "_law_round" "_law_round" (defArgs s__law_round) (defBody s__law_round) (defScope s__law_round) .none kV__law_round dc__law_round pm__law_round an__law_round cd__law_round ct__law_round), sl__law_round⟩) (c__law_round : PySem.W.codeIn K cd__law_round "_law_round" = true) (k__law_round : PySem.W.keepIn K (.ref f__law_round) = true)
    (a__law_rows_right : PySem.W.nsIn K mainGlobals "_law_rows_right" = some (some (.ref f__law_rows_right))) (l__law_rows_right : K.lookup f__law_rows_right = some ⟨oc__law_rows_right, od__law_rows_right, .func (PySem.W.fnOf "_law_rows_right" "_law_rows_right" (defArgs s__law_rows_right) (defBody s__law_rows_right) (defScope s__law_rows_right) .none kV__law_rows_right dc__law_rows_right pm__law_rows_right an__law_rows_right cd__law_rows_right ct__law_rows_right), sl__law_rows_right⟩) (c__law_rows_right : PySem.W.codeIn K cd__law_rows_right "_law_rows_right" = true) (k__law_rows_right : PySem.W.keepIn K (.ref f__law_rows_right) = true)
    (a__law_sums_right : PySem.W.nsIn K mainGlobals "_law_sums_right" = some (some (.ref f__law_sums_right))) (l__law_sums_right : K.lookup f__law_sums_right = some ⟨oc__law_sums_right, od__law_sums_right, .func (PySem.W.fnOf "_law_sums_right" "_law_sums_right" (defArgs s__law_sums_right) (defBody s__law_sums_right) (defScope s__law_sums_right) .none kV__law_sums_right dc__law_sums_right pm__law_sums_right an__law_sums_right cd__law_sums_right ct__law_sums_right), sl__law_sums_right⟩) (c__law_sums_right : PySem.W.codeIn K cd__law_sums_right "_law_sums_right" = true) (k__law_sums_right : PySem.W.keepIn K (.ref f__law_sums_right) = true)
    (a_law : PySem.W.nsIn K mainGlobals "law" = some (some (.ref f_law))) (l_law : K.lookup f_law = some ⟨oc_law, od_law, .func (PySem.W.fnOf "law" "law" (defArgs s_law) (defBody s_law) (defScope s_law) .none kV_law dc_law pm_law an_law cd_law ct_law), sl_law⟩) (c_law : PySem.W.codeIn K cd_law "law" = true) (k_law : PySem.W.keepIn K (.ref f_law) = true)
    (t_open_round : P_open_round ∈ ts) (n_open_round : K.lookup P_open_round = none) (h_open_round : PySem.W.codeHdIn K x_open_round P_open_round = true)
    (t_mean : P_mean ∈ ts) (n_mean : K.lookup P_mean = none) (h_mean : PySem.W.codeHdIn K x_mean P_mean = true)
    (t_mean_by : P_mean_by ∈ ts) (n_mean_by : K.lookup P_mean_by = none) (h_mean_by : PySem.W.codeHdIn K x_mean_by P_mean_by = true)
    (hn_open_round_mean : P_open_round ≠ P_mean)
    (hn_open_round_mean_by : P_open_round ≠ P_mean_by)
    (hn_mean_mean_by : P_mean ≠ P_mean_by)
    (v_gcd : PySem.W.nsIn K mainGlobals "gcd" = some (some (.builtin "math.gcd")))
    (z_abs : PySem.W.nsIn K mainGlobals "abs" = some none) (z_enumerate : PySem.W.nsIn K mainGlobals "enumerate" = some none) (z_int : PySem.W.nsIn K mainGlobals "int" = some none) (z_isinstance : PySem.W.nsIn K mainGlobals "isinstance" = some none) (z_len : PySem.W.nsIn K mainGlobals "len" = some none) (z_list : PySem.W.nsIn K mainGlobals "list" = some none) (z_range : PySem.W.nsIn K mainGlobals "range" = some none) (z_repr : PySem.W.nsIn K mainGlobals "repr" = some none) (z_str : PySem.W.nsIn K mainGlobals "str" = some none) (z_sum : PySem.W.nsIn K mainGlobals "sum" = some none) (z_tuple : PySem.W.nsIn K mainGlobals "tuple" = some none) :
    ∃ (fd : FuncData) (cs : List (Addr × Addr)), (∀ p ∈ cs, p.2 ∈ ts) ∧ (∀ p ∈ cs, K.lookup p.2 = none) ∧ (∀ p ∈ cs, PySem.W.codeHdIn K p.1 p.2 = true) ∧ (∀ (s : Shared) (v : Value), BindsTo s fd ⟨[v], []⟩ [("_law_script", v)]) ∧ ∀ base : Heap, K.In base → base.Ns mainGlobals mg → base.NoDigits → (∀ p ∈ cs, LamX.TabB base mg p.1 p.2) → GFn l.prog w K mg base CX0 6 fa fd ["_law_script"] (spLaw K cs) := by
  have e := hfa.symm.trans (PySem.W.mg_of X G a_law)
  cases e
  have F_fraction := fun_mk (st := s_fraction) l_fraction c_fraction k_fraction
  have b_fraction := F_fraction.binds (ps := ["top", "bottom"]) fun _ _ _ _ _ _ us hl => match us, hl with | [_, _], _ => rfl
  have m_fraction := PySem.W.mg_of X G a_fraction
  have F_draw := fun_mk (st := s_draw) l_draw c_draw k_draw
  have b_draw := F_draw.binds (ps := ["many", "tosses"]) fun _ _ _ _ _ _ us hl => match us, hl with | [_, _], _ => rfl
  have m_draw := PySem.W.mg_of X G a_draw
  have F_onward_rests := fun_mk (st := s_onward_rests) l_onward_rests c_onward_rests k_onward_rests
  have b_onward_rests := F_onward_rests.binds (ps := ["rests", "total"]) fun _ _ _ _ _ _ us hl => match us, hl with | [_, _], _ => rfl
  have m_onward_rests := PySem.W.mg_of X G a_onward_rests
  have F_power_left := fun_mk (st := s_power_left) l_power_left c_power_left k_power_left
  have b_power_left := F_power_left.binds (ps := ["depth", "many"]) fun _ _ _ _ _ _ us hl => match us, hl with | [_, _], _ => rfl
  have m_power_left := PySem.W.mg_of X G a_power_left
  have F_open_at := fun_mk (st := s_open_at) l_open_at c_open_at k_open_at
  have b_open_at := F_open_at.binds (ps := ["many", "depth"]) fun _ _ _ _ _ _ us hl => match us, hl with | [_, _], _ => rfl
  have m_open_at := PySem.W.mg_of X G a_open_at
  have F_leaves_at := fun_mk (st := s_leaves_at) l_leaves_at c_leaves_at k_leaves_at
  have b_leaves_at := F_leaves_at.binds (ps := ["many", "depth"]) fun _ _ _ _ _ _ us hl => match us, hl with | [_, _], _ => rfl
  have m_leaves_at := PySem.W.mg_of X G a_leaves_at
  have F_open_round := fun_mk (st := s_open_round) l_open_round c_open_round k_open_round
  have b_open_round := F_open_round.binds (ps := ["many"]) fun _ _ _ _ _ _ us hl => match us, hl with | [_], _ => rfl
  have m_open_round := PySem.W.mg_of X G a_open_round
  have F_round_from := fun_mk (st := s_round_from) l_round_from c_round_from k_round_from
  have b_round_from := F_round_from.binds (ps := ["start", "move_on"]) fun _ _ _ _ _ _ us hl => match us, hl with | [_, _], _ => rfl
  have m_round_from := PySem.W.mg_of X G a_round_from
  have F_rows_to := fun_mk (st := s_rows_to) l_rows_to c_rows_to k_rows_to
  have b_rows_to := F_rows_to.binds (ps := ["many", "index", "most"]) fun _ _ _ _ _ _ us hl => match us, hl with | [_, _, _], _ => rfl
  have m_rows_to := PySem.W.mg_of X G a_rows_to
  have F_row_to := fun_mk (st := s_row_to) l_row_to c_row_to k_row_to
  have b_row_to := F_row_to.binds (ps := ["leaves", "place"]) fun _ _ _ _ _ _ us hl => match us, hl with | [_, _], _ => rfl
  have m_row_to := PySem.W.mg_of X G a_row_to
  have F_mean := fun_mk (st := s_mean) l_mean c_mean k_mean
  have b_mean := F_mean.binds (ps := ["many"]) fun _ _ _ _ _ _ us hl => match us, hl with | [_], _ => rfl
  have m_mean := PySem.W.mg_of X G a_mean
  have F_mean_by := fun_mk (st := s_mean_by) l_mean_by c_mean_by k_mean_by
  have b_mean_by := F_mean_by.binds (ps := ["weights"]) fun _ _ _ _ _ _ us hl => match us, hl with | [_], _ => rfl
  have m_mean_by := PySem.W.mg_of X G a_mean_by
  have F_summed_by_halves := fun_mk (st := s_summed_by_halves) l_summed_by_halves c_summed_by_halves k_summed_by_halves
  have b_summed_by_halves := F_summed_by_halves.binds (ps := ["opens", "first"]) fun _ _ _ _ _ _ us hl => match us, hl with | [_, _], _ => rfl
  have m_summed_by_halves := PySem.W.mg_of X G a_summed_by_halves
  have F_weighed := fun_mk (st := s_weighed) l_weighed c_weighed k_weighed
  have b_weighed := F_weighed.binds (ps := ["opens"]) fun _ _ _ _ _ _ us hl => match us, hl with | [_], _ => rfl
  have m_weighed := PySem.W.mg_of X G a_weighed
  have F__law_deck := fun_mk (st := s__law_deck) l__law_deck c__law_deck k__law_deck
  have b__law_deck := F__law_deck.binds (ps := ["_law_script"]) fun _ _ _ _ _ _ us hl => match us, hl with | [_], _ => rfl
  have m__law_deck := PySem.W.mg_of X G a__law_deck
  have F__law_draw := fun_mk (st := s__law_draw) l__law_draw c__law_draw k__law_draw
  have b__law_draw := F__law_draw.binds (ps := ["_law_deck_here", "_law_much"]) fun _ _ _ _ _ _ us hl => match us, hl with | [_, _], _ => rfl
  have m__law_draw := PySem.W.mg_of X G a__law_draw
  have F__law_pick := fun_mk (st := s__law_pick) l__law_pick c__law_pick k__law_pick
  have b__law_pick := F__law_pick.binds (ps := ["_law_deck_here", "_law_some"]) fun _ _ _ _ _ _ us hl => match us, hl with | [_, _], _ => rfl
  have m__law_pick := PySem.W.mg_of X G a__law_pick
  have F__law_twos := fun_mk (st := s__law_twos) l__law_twos c__law_twos k__law_twos
  have b__law_twos := F__law_twos.binds (ps := ["_law_much"]) fun _ _ _ _ _ _ us hl => match us, hl with | [_], _ => rfl
  have m__law_twos := PySem.W.mg_of X G a__law_twos
  have F__law_ratio := fun_mk (st := s__law_ratio) l__law_ratio c__law_ratio k__law_ratio
  have b__law_ratio := F__law_ratio.binds (ps := ["_law_top", "_law_bottom"]) fun _ _ _ _ _ _ us hl => match us, hl with | [_, _], _ => rfl
  have m__law_ratio := PySem.W.mg_of X G a__law_ratio
  have F__law_summed := fun_mk (st := s__law_summed) l__law_summed c__law_summed k__law_summed
  have b__law_summed := F__law_summed.binds (ps := ["_law_opens"]) fun _ _ _ _ _ _ us hl => match us, hl with | [_], _ => rfl
  have m__law_summed := PySem.W.mg_of X G a__law_summed
  have F__law_mean_by := fun_mk (st := s__law_mean_by) l__law_mean_by c__law_mean_by k__law_mean_by
  have b__law_mean_by := F__law_mean_by.binds (ps := ["_law_loads"]) fun _ _ _ _ _ _ us hl => match us, hl with | [_], _ => rfl
  have m__law_mean_by := PySem.W.mg_of X G a__law_mean_by
  have F__law_round := fun_mk (st := s__law_round) l__law_round c__law_round k__law_round
  have b__law_round := F__law_round.binds (ps := ["_law_much"]) fun _ _ _ _ _ _ us hl => match us, hl with | [_], _ => rfl
  have m__law_round := PySem.W.mg_of X G a__law_round
  have F__law_rows_right := fun_mk (st := s__law_rows_right) l__law_rows_right c__law_rows_right k__law_rows_right
  have b__law_rows_right := F__law_rows_right.binds (ps := ["_law_much", "_law_piece", "_law_limit"]) fun _ _ _ _ _ _ us hl => match us, hl with | [_, _, _], _ => rfl
  have m__law_rows_right := PySem.W.mg_of X G a__law_rows_right
  have F__law_sums_right := fun_mk (st := s__law_sums_right) l__law_sums_right c__law_sums_right k__law_sums_right
  have b__law_sums_right := F__law_sums_right.binds (ps := ["_law_much", "_law_limit"]) fun _ _ _ _ _ _ us hl => match us, hl with | [_, _], _ => rfl
  have m__law_sums_right := PySem.W.mg_of X G a__law_sums_right
  have F_law := fun_mk (st := s_law) l_law c_law k_law
  have kb_mean_many := kb_of (ps := ["many"]) (ks := ["many"]) (g := kwOne) (gV := kwOne) F_mean (fun kV doc pm an cdv ct us ws hl => by
    obtain ⟨x, rfl, rfl⟩ := kwOne_args hl
    rfl) kwOne_rel
  have kb_open_round_many := kb_of (ps := ["many"]) (ks := ["many"]) (g := kwOne) (gV := kwOne) F_open_round (fun kV doc pm an cdv ct us ws hl => by
    obtain ⟨x, rfl, rfl⟩ := kwOne_args hl
    rfl) kwOne_rel
  have kb_rows_to_most_index_many := kb_of (ps := ["many", "index", "most"]) (ks := ["most", "index", "many"]) (g := kwThree) (gV := kwThree) F_rows_to (fun kV doc pm an cdv ct us ws hl => by
    obtain ⟨x, y, z, rfl, rfl⟩ := kwThree_args hl
    rfl) kwThree_rel
  have T : Txt mg := ⟨PySem.W.mg_none_of X G z_abs, PySem.W.mg_none_of X G z_enumerate, PySem.W.mg_of X G v_gcd, PySem.W.mg_none_of X G z_int, PySem.W.mg_none_of X G z_isinstance, PySem.W.mg_none_of X G z_len, PySem.W.mg_none_of X G z_list, PySem.W.mg_none_of X G z_range, PySem.W.mg_none_of X G z_repr, PySem.W.mg_none_of X G z_str, PySem.W.mg_none_of X G z_sum, PySem.W.mg_none_of X G z_tuple⟩
  refine ⟨PySem.W.fnOf "law" "law" (defArgs s_law) (defBody s_law) (defScope s_law) .none kV_law dc_law pm_law an_law cd_law ct_law, [(x_open_round, P_open_round), (x_mean, P_mean), (x_mean_by, P_mean_by)], ?_, ?_, ?_, fun s v => .of_eq rfl, fun base _ _ hdg TB => ?_⟩
  · intro p hp
    rcases List.mem_cons.mp hp with rfl | hp
    · exact t_open_round
    rcases List.mem_cons.mp hp with rfl | hp
    · exact t_mean
    rw [List.mem_singleton.mp hp]
    exact t_mean_by
  · intro p hp
    rcases List.mem_cons.mp hp with rfl | hp
    · exact n_open_round
    rcases List.mem_cons.mp hp with rfl | hp
    · exact n_mean
    rw [List.mem_singleton.mp hp]
    exact n_mean_by
  · intro p hp
    rcases List.mem_cons.mp hp with rfl | hp
    · exact h_open_round
    rcases List.mem_cons.mp hp with rfl | hp
    · exact h_mean
    rw [List.mem_singleton.mp hp]
    exact h_mean_by
  have TB_open_round := TB _ (List.mem_cons_self)
  have TB_mean := TB _ (List.mem_cons_of_mem _ (List.mem_cons_self))
  have TB_mean_by := TB _ (List.mem_cons_of_mem _ (List.mem_cons_of_mem _ (List.mem_cons_self)))
  obtain ⟨u1, u2, u3⟩ := tabs_one hn_open_round_mean hn_open_round_mean_by hn_mean_mean_by
  exact ok_law hdg F_law F__law_deck m__law_deck b__law_deck F__law_draw m__law_draw b__law_draw F__law_pick m__law_pick b__law_pick F__law_twos m__law_twos b__law_twos F__law_ratio m__law_ratio b__law_ratio F__law_summed m__law_summed b__law_summed F__law_mean_by m__law_mean_by b__law_mean_by F__law_round m__law_round b__law_round F__law_rows_right m__law_rows_right b__law_rows_right F__law_sums_right m__law_sums_right b__law_sums_right
    F_draw m_draw b_draw F_rows_to m_rows_to b_rows_to kb_rows_to_most_index_many F_row_to m_row_to b_row_to F_power_left m_power_left b_power_left F_open_at m_open_at b_open_at F_leaves_at m_leaves_at b_leaves_at
    (ok_openRound F_open_round rfl TB_open_round (List.mem_cons_self) u1 F_round_from m_round_from b_round_from T) F_open_round m_open_round b_open_round kb_open_round_many
    (ok_mean F_mean rfl TB_mean (List.mem_cons_of_mem _ List.mem_cons_self) u2 F_round_from m_round_from b_round_from F_summed_by_halves m_summed_by_halves b_summed_by_halves F_fraction m_fraction b_fraction F_weighed m_weighed b_weighed T) F_mean m_mean b_mean kb_mean_many
    (ok_meanBy F_mean_by rfl TB_mean_by (List.mem_cons_of_mem _ (List.mem_cons_of_mem _ List.mem_cons_self)) u3 F_round_from m_round_from b_round_from F_summed_by_halves m_summed_by_halves b_summed_by_halves F_fraction m_fraction b_fraction F_weighed m_weighed b_weighed F_onward_rests m_onward_rests b_onward_rests T) F_mean_by m_mean_by b_mean_by T
end SG
open PySem PySem.W PyProof.Rows
set_option maxHeartbeats 0 in
theorem PySem.Challenge.cw_serialhouse_k41_whole_rows_rounds_and_me_holds : PySem.Challenge.rw_serialhouse_k41_whole_rows_rounds_and_me.Holds := by
  w_on; o_law; k_head; (case hw => w_witness2)
  k_fill
  refine SG.walk_gT (l := PySem.Challenge.rw_serialhouse_k41_whole_rows_rounds_and_me) (n := 63) (k := 6) (x := "_law_script") (sp := SG.spLaw) rfl (by decide) rfl ⟨rfl, by decide, by decide⟩ ?F (fun _ cs _ a ns hl hH hS => ⟨a, ns, rfl, hS, hl, hH, fun _ => rfl⟩)
  case F =>
    intro w mg fa h KX G hmg
    refine' SG.all_mk (P_open_round := 84) (P_mean := 112) (P_mean_by := 119) KX G hmg ?a_fraction ?l_fraction ?c_fraction ?k_fraction ?a_draw ?l_draw ?c_draw ?k_draw ?a_onward_rests ?l_onward_rests ?c_onward_rests ?k_onward_rests ?a_power_left ?l_power_left ?c_power_left ?k_power_left ?a_open_at ?l_open_at ?c_open_at ?k_open_at ?a_leaves_at ?l_leaves_at ?c_leaves_at ?k_leaves_at ?a_open_round ?l_open_round ?c_open_round ?k_open_round ?a_round_from ?l_round_from ?c_round_from ?k_round_from ?a_rows_to ?l_rows_to ?c_rows_to ?k_rows_to ?a_row_to ?l_row_to ?c_row_to ?k_row_to ?a_mean ?l_mean ?c_mean ?k_mean ?a_mean_by ?l_mean_by ?c_mean_by ?k_mean_by ?a_summed_by_halves ?l_summed_by_halves ?c_summed_by_halves ?k_summed_by_halves ?a_weighed ?l_weighed ?c_weighed ?k_weighed ?a__law_deck ?l__law_deck ?c__law_deck ?k__law_deck ?a__law_draw ?l__law_draw ?c__law_draw ?k__law_draw ?a__law_pick ?l__law_pick ?c__law_pick ?k__law_pick ?a__law_twos ?l__law_twos ?c__law_twos ?k__law_twos ?a__law_ratio ?l__law_ratio ?c__law_ratio ?k__law_ratio ?a__law_summed ?l__law_summed ?c__law_summed ?k__law_summed ?a__law_mean_by ?l__law_mean_by ?c__law_mean_by ?k__law_mean_by ?a__law_round ?l__law_round ?c__law_round ?k__law_round ?a__law_rows_right ?l__law_rows_right ?c__law_rows_right ?k__law_rows_right ?a__law_sums_right ?l__law_sums_right ?c__law_sums_right ?k__law_sums_right ?a_law ?l_law ?c_law ?k_law ?t_open_round ?n_open_round ?h_open_round ?t_mean ?n_mean ?h_mean ?t_mean_by ?n_mean_by ?h_mean_by ?hn_open_round_mean ?hn_open_round_mean_by ?hn_mean_mean_by ?v_gcd ?z_abs ?z_enumerate ?z_int ?z_isinstance ?z_len ?z_list ?z_range ?z_repr ?z_str ?z_sum ?z_tuple
    (case a_fraction => k_is); (case l_fraction => k_is); (case c_fraction => k_is); (case k_fraction => k_is); (case a_draw => k_is); (case l_draw => k_is); (case c_draw => k_is); (case k_draw => k_is); (case a_onward_rests => k_is); (case l_onward_rests => k_is); (case c_onward_rests => k_is); (case k_onward_rests => k_is); (case a_power_left => k_is); (case l_power_left => k_is); (case c_power_left => k_is); (case k_power_left => k_is); (case a_open_at => k_is); (case l_open_at => k_is); (case c_open_at => k_is); (case k_open_at => k_is); (case a_leaves_at => k_is); (case l_leaves_at => k_is); (case c_leaves_at => k_is); (case k_leaves_at => k_is); (case a_open_round => k_is); (case l_open_round => k_is); (case c_open_round => k_is); (case k_open_round => k_is); (case a_round_from => k_is); (case l_round_from => k_is); (case c_round_from => k_is); (case k_round_from => k_is); (case a_rows_to => k_is); (case l_rows_to => k_is); (case c_rows_to => k_is); (case k_rows_to => k_is); (case a_row_to => k_is); (case l_row_to => k_is); (case c_row_to => k_is); (case k_row_to => k_is); (case a_mean => k_is); (case l_mean => k_is); (case c_mean => k_is); (case k_mean => k_is); (case a_mean_by => k_is); (case l_mean_by => k_is); (case c_mean_by => k_is); (case k_mean_by => k_is); (case a_summed_by_halves => k_is); (case l_summed_by_halves => k_is); (case c_summed_by_halves => k_is); (case k_summed_by_halves => k_is); (case a_weighed => k_is); (case l_weighed => k_is); (case c_weighed => k_is); (case k_weighed => k_is); (case a__law_deck => k_is); (case l__law_deck => k_is); (case c__law_deck => k_is); (case k__law_deck => k_is); (case a__law_draw => k_is); (case l__law_draw => k_is); (case c__law_draw => k_is); (case k__law_draw => k_is); (case a__law_pick => k_is); (case l__law_pick => k_is); (case c__law_pick => k_is); (case k__law_pick => k_is); (case a__law_twos => k_is); (case l__law_twos => k_is); (case c__law_twos => k_is); (case k__law_twos => k_is); (case a__law_ratio => k_is); (case l__law_ratio => k_is); (case c__law_ratio => k_is); (case k__law_ratio => k_is); (case a__law_summed => k_is); (case l__law_summed => k_is); (case c__law_summed => k_is); (case k__law_summed => k_is); (case a__law_mean_by => k_is); (case l__law_mean_by => k_is); (case c__law_mean_by => k_is); (case k__law_mean_by => k_is); (case a__law_round => k_is); (case l__law_round => k_is); (case c__law_round => k_is); (case k__law_round => k_is); (case a__law_rows_right => k_is); (case l__law_rows_right => k_is); (case c__law_rows_right => k_is); (case k__law_rows_right => k_is); (case a__law_sums_right => k_is); (case l__law_sums_right => k_is); (case c__law_sums_right => k_is); (case k__law_sums_right => k_is); (case a_law => k_is); (case l_law => k_is); (case c_law => k_is); (case k_law => k_is); (case t_open_round => decide); (case n_open_round => rfl); (case h_open_round => rfl); (case t_mean => decide); (case n_mean => rfl); (case h_mean => rfl); (case t_mean_by => decide); (case n_mean_by => rfl); (case h_mean_by => rfl); (case hn_open_round_mean => decide); (case hn_open_round_mean_by => decide); (case hn_mean_mean_by => decide); (case v_gcd => k_is); (case z_abs => k_is); (case z_enumerate => k_is); (case z_int => k_is); (case z_isinstance => k_is); (case z_len => k_is); (case z_list => k_is); (case z_range => k_is); (case z_repr => k_is); (case z_str => k_is); (case z_sum => k_is); (case z_tuple => k_is)
