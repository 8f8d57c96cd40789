import PyProof.Rows.All
import Wide.All
import OpenK.AllK
import Wide.FinOn
import HandS.ForMost
import HandS.IsInst
import HandS.Style
import HandS.Wide
import PyProof.Rows.Digits
import KE.GoesEnum
import HandS.Zip
import HandS.TupAny
import HandS.Codes
import PyProof.ReprBulk
import HandS.Text
import KE.GoesEnumKw
import PyProof.FString3
import PyProof.Rows.StrIntSpec
import HandS.FStr
import HandS.Walk
import HandS.Gcd
import HandS.StrMore
import HandS.WideBits
import PyProof.ReprDict
import PyProof.NeKinds
import PyProof.Rows.IntBool
import PyProof.StrOps2
import HandS.RevTup
import HandS.SetFor
import HandS.Strs
import KE.DataFind
import PyProof.Rows.ReprOcc
import HandS.SortInts
import HandS.SortRule
import HandS.Dict
import HandS.Conv
import HandS.Iter
import PySem.Challenge.RW_serialhouse_k54_joins_of_any_hand
import KE.KIntText
set_option Elab.async false
set_option linter.all false
set_option maxRecDepth 100000
/-! Contracts of defs that know the guards: where no text of an object is being told, repr can be asked. -/
namespace SG
open PySem PySem.Spec PyProof.Rows L2

/-- a def's promise, kept wherever no guard stands -/
structure GFn (pr : Program) (wo : World) (K : PySem.W.Frag) (mg : Str → Option Value) (ba : Heap) (cx : CXT) (k : Nat) (f : Addr) (fd : FuncData) (ps : List Str) (sp : Sp) : Prop where
  len : ∀ xs Hx R Ex, sp xs Hx R Ex → xs.length = ps.length
  go : ∀ (B : Around) (fr : List Env) (st : Shared) (Hx : Hp) (ar : Args) (vals : List Value) (xs : List V) (R : VK) (Ex : XK),
    B.guards = some [] → Room k B → Env0 pr wo K mg ba B fr st Hx → BindsTo st fd ar (ps.zip vals) → Vals xs vals → sp xs Hx R Ex →
    codeAny (model pr wo) B (.call (.ref f) ar) (CR cx fr pr wo Hx st R Ex) st

variable {pr : Program} {wo : World} {K : PySem.W.Frag} {mg : Str → Option Value} {ba : Heap} {cx : CXT}

theorem GFn.mono {j k : Nat} {f : Addr} {fd : FuncData} {ps : List Str} {sp : Sp} (F : GFn pr wo K mg ba cx j f fd ps sp) (h : j ≤ k) :
    GFn pr wo K mg ba cx k f fd ps sp :=
  ⟨F.len, fun B fr st Hx ar vals xs R Ex g hr => F.go B fr st Hx ar vals xs R Ex g (hr.mono h)⟩
theorem GFn.imp {k : Nat} {f : Addr} {fd : FuncData} {ps : List Str} {sp sq : Sp} (F : GFn pr wo K mg ba cx k f fd ps sp)
    (h : ∀ xs Hx R Ex, sq xs Hx R Ex → sp xs Hx R Ex) : GFn pr wo K mg ba cx k f fd ps sq :=
  ⟨fun xs Hx R Ex q => F.len xs Hx R Ex (h _ _ _ _ q), fun B fr st Hx ar vals xs R Ex g hr e b v q => F.go B fr st Hx ar vals xs R Ex g hr e b v (h _ _ _ _ q)⟩
/-- what is kept anywhere is kept here -/
theorem GFn.of {k : Nat} {f : Addr} {fd : FuncData} {ps : List Str} {sp : Sp} (F : FnOk pr wo K mg ba cx k f fd ps sp) : GFn pr wo K mg ba cx k f fd ps sp :=
  ⟨F.len, fun B fr st Hx ar vals xs R Ex _ hr => F.run B fr st Hx ar vals xs R Ex hr⟩

/-- a def by its body -/
theorem gfn_of {k : Nat} {f : Addr} {nm qn : Str} {pa : Arguments} {bd : List Stmt} {sc : Scope} {dV kV dc pm cdv ct oc : Value} {an od : Option Addr} {osl : Array (Option Value)} {N ps : List Str} {sp : Sp}
    (lk : K.lookup f = some ⟨oc, od, .func (PySem.W.fnOf nm qn pa bd sc dV kV dc pm an cdv ct), osl⟩) (hcd : PySem.W.codeIn K cdv qn = true) (S : FnScope N ps sc)
    (len : ∀ xs Hx R Ex, sp xs Hx R Ex → xs.length = ps.length)
    (hb : ∀ (B : Around) (fr : List Env) (st : Shared) (Hx : Hp) (xs : List V) (R : VK) (Ex : XK), B.guards = some [] → Room k (B.deeper (envOfC qn sc st.heap.objs.size f cdv)) → sp xs Hx R Ex →
      ∃ t, PSs (cxOf cx pr wo K mg ba N qn sc f cdv B fr st Hx Ex) bd t ∧ t { nx := fun _ H2 => R .non H2, rt := R } (start N xs) Hx) :
    GFn pr wo K mg ba cx (k + 1) f (PySem.W.fnOf nm qn pa bd sc dV kV dc pm an cdv ct) ps sp := by
  refine ⟨len, fun B fr st Hx ar vals xs R Ex g hr e0 hbd rv hsp => ?_⟩
  have KX : K.In st.heap := e0.mod.kin.keeps fun b o e => (e0.bs b o e).1
  have lim : st.heap.NoLimit := e0.mod.nolimit.keeps fun b o e => (e0.bs b o e).1
  have hkn : ∀ y ∈ ps.zip vals, sc.names.lookup y.1 = some .local ∨ (sc.names.lookup y.1 = some .cell ∧ ((cellsFrom (st.heap.objs.size + 1) sc.names []).lookup y.1).isSome = true) := by
    rintro ⟨n, v⟩ hy
    rcases S.par n (List.of_mem_zip hy).1 with q | q
    · exact .inl q
    · exact .inr ⟨q, PySem.W.cellsFrom_some _ _ _ (.inl q)⟩
  refine codeAny_call_function hr.depth (KX _ _ lk) rfl S.co S.gen rfl (PySem.W.codeRec_of KX hcd) (hbd _ _ _ _ ?_)
  refine wpAny_newFunctionEnv_cells S.kind hkn fun env he s1 x => ?_
  subst he
  refine ⟨lim.keeps x.toInCall.keep, codeAny_func ?_⟩
  obtain ⟨t, ht, hq⟩ := hb B fr st Hx xs R Ex g (hr.deeper _) hsp
  have I : Inv (cxOf cx pr wo K mg ba N qn sc f cdv B fr st Hx Ex) [] (start N xs) Hx s1 := inv_start S hr.hd e0 (len _ _ _ _ hsp) rv x
  refine wpAny_mono (ht.run [] s1 (start N xs) Hx _ I hq) (fun fl s2 hs => ?_) fun e s2 hs => hs
  have fin : ∀ {τ : L2.St} {H2 : Hp} {v : V} {u : Value}, Inv (cxOf cx pr wo K mg ba N qn sc f cdv B fr st Hx Ex) [] τ H2 s2 → RelV v u → R v H2 → CE fr pr wo Hx st R u s2 :=
    fun {τ H2 v u} J r1 q => ⟨v, H2, J.os, J.bare, J.base, J.hok, r1, q⟩
  cases fl with
  | ret u => obtain ⟨v, τ, H2, J, r1, q⟩ := hs; exact fin J r1 q
  | next => obtain ⟨τ, H2, J, q⟩ := hs; exact fin (v := V.non) (u := Value.none) J rfl q
  | brk => obtain ⟨_, _, _, q⟩ := hs; exact q.elim
  | cont => obtain ⟨_, _, _, q⟩ := hs; exact q.elim

theorem gfun_ok {x qn : Str} {s0 : Stmt} {f : Addr} {fd : FuncData} {N ps : List Str} {k : Nat} {sp : Sp} (F : Fun K x qn s0 f fd) (S : FnScope N ps (defScope s0)) (len : ∀ xs Hx R Ex, sp xs Hx R Ex → xs.length = ps.length)
    (hb : ∀ (cdv : Value) (B : Around) (fr : List Env) (st : Shared) (Hx : Hp) (xs : List V) (R : VK) (Ex : XK), (B.deeper (envOfC qn (defScope s0) st.heap.objs.size f cdv)).guards = some [] →
      Room k (B.deeper (envOfC qn (defScope s0) st.heap.objs.size f cdv)) → sp xs Hx R Ex →
      ∃ t, PSs (cxOf CX0 pr wo K mg ba N qn (defScope s0) f cdv B fr st Hx Ex).nox (defBody s0) t ∧ t { nx := fun _ H2 => R .non H2, rt := R } (start N xs) Hx) :
    GFn pr wo K mg ba CX0 (k + 1) f fd ps sp := by
  obtain ⟨oc, od, kV, dc, pm, an, cdv, ct, osl, rfl, lk, hcd⟩ := F.ex
  refine gfn_of lk hcd S len fun B fr st Hx xs R Ex g hr hsp => ?_
  obtain ⟨t, h, q⟩ := hb cdv B fr st Hx xs R Ex g hr hsp
  exact ⟨t, h.nox, q⟩

section
variable {X : Cx} {k : Nat} {f : Addr} {fd : FuncData} {ps ks : List Str} {sp : Sp} {dvs : List V} {ds : List Value} {Ex : XK} {x : Str} {p pos : Pos} {e : Expr} {es : List Expr} {kws : List Keyword} {t tk : TA}

theorem end_of {pins : List (Addr × Obj)} {σ : L2.St} {Hx : Hp} {st s2 : Shared} {R : VK} {r : Result} (hx : Passes cx X Ex) (I : Inv X pins σ Hx st) (q : CR cx X.stack X.prog X.w Hx st R Ex r s2) :
    (match r with | .ok (.ret u) => EP X pins σ R u s2 | .ok _ => False | .error e => X.xe e s2) := by
  cases r with
  | error e => exact hx pins σ Hx st e s2 I q
  | ok fl => cases fl <;> first | exact I.after q | exact False.elim q

theorem run_g {pins : List (Addr × Obj)} {σ : L2.St} {Hx : Hp} {st : Shared} {R : VK} {ar : Args} {vals : List Value} {xs : List V} (F : GFn X.prog X.w X.K X.mg X.base cx k f fd ps sp) (hg : X.A.guards = some []) (hr : Room k X.A) (hx : Passes cx X Ex)
    (I : Inv X pins σ Hx st) (hb : BindsTo st fd ar (ps.zip vals)) (r : Vals xs vals) (h : sp xs Hx R Ex) {us : List Value} {kw : List (Str × Value)} (ea : ar = ⟨us, kw⟩) : wpAny (model X.prog X.w) X.A (call (.ref f) us kw) (EP X pins σ R) X.xe st := by
  subst ea
  refine wpAny_call (codeAny_mono (F.go X.A X.stack st Hx _ vals xs R Ex hg hr I.env0 hb r h) fun r s2 hq => ?_)
  have z := end_of hx I hq
  cases r with
  | error e => exact z
  | ok fl => cases fl <;> exact z

/-- f(a, ..) -/
theorem pe_g (F : GFn X.prog X.w X.K X.mg X.base cx k f fd ps sp) (hgu : X.A.guards = some []) (hr : Room k X.A) (hg : Gl X x) (hm : X.mg x = some (.ref f)) (hk : PySem.W.keepIn X.K (.ref f) = true) (hb : Binds X.K fd ps ds) (hd : Vals dvs ds) (hx : Passes cx X Ex)
    (ha : PA X (e :: es) t) (hdb : (x == ("__debug__" : Str)) = false := by decide) (he : starEach (e :: es) X.env = (false, eval e X.env) :: starEach es X.env := by rfl) (hpl : (backTo pos (starEach es X.env)).any (·.1) = false := by rfl) :
    PE X (.Call (.Name x p) (e :: es) [] pos) (tCall sp dvs Ex t) := by
  refine ⟨fun pins st σ Hx R I h => wpAny_Call_Name_kw (ld_glob I hg hm ?_ hdb)⟩
  refine PySem.W.callWith_K (h₀ := X.base) I.ok.mod.kin hk (thn (ha.run pos pins st σ Hx _ I h) ?_) he hpl
  rintro us s1 ⟨vs, H1, I1, r, q⟩
  have r2 : Vals (vs ++ dvs) (us ++ ds) := r.append hd
  exact ⟨I1.kIn, run_g F hgu hr hx I1 (hb s1 us I1.kIn (by rw [← r2.length]; exact F.len _ _ _ _ q)) r2 q rfl⟩

/-- f(a, .., k = b, ..) -/
theorem pe_gK {g : List Value → List Value → List Value} {gV : List V → List V → List V} (F : GFn X.prog X.w X.K X.mg X.base cx k f fd ps sp) (hgu : X.A.guards = some []) (hr : Room k X.A) (hg : Gl X x) (hm : X.mg x = some (.ref f)) (hk : PySem.W.keepIn X.K (.ref f) = true)
    (hb : KBinds X.K fd ps ks g gV) (hx : Passes cx X Ex) (ha : PA X (e :: es) t) (hkw : PK X kws tk) (hall : (backToKw pos (keywordEach kws X.env)).all (·.1.isSome) = true := by rfl) (hks : (backToKw pos (keywordEach kws X.env)).filterMap (·.1) = ks := by rfl)
    (hdb : (x == ("__debug__" : Str)) = false := by decide) (he : starEach (e :: es) X.env = (false, eval e X.env) :: starEach es X.env := by rfl)
    (hpl : ((backTo pos (starEach (e :: es) X.env)).any (·.1) || (backToKw pos (keywordEach kws X.env)).any (·.1.isNone)) = false := by rfl) :
    PE X (.Call (.Name x p) (e :: es) kws pos) (tCallK sp gV Ex t tk) := by
  refine ⟨fun pins st σ Hx R I h => wpAny_Call_Name_kw (ld_glob I hg hm ?_ hdb)⟩
  refine PySem.W.callWith_KW (h₀ := X.base) I.ok.mod.kin hk hall (thn (ha.run pos pins st σ Hx _ I h) ?_) hpl he
  rintro us s1 ⟨vs, H1, I1, r, q⟩
  refine thn (hkw.run pos pins s1 σ H1 _ I1 q) ?_
  rintro ws s2 ⟨zs, H2, I2, rz, q2⟩
  refine ⟨I2.kIn, ?_⟩
  rw [hks]
  have r2 := hb.rel r rz
  exact run_g F hgu hr hx I2 (hb.to s2 us ws I2.kIn (by rw [← r2.length]; exact F.len _ _ _ _ q2)) r2 q2 rfl
/-- f(k = b, ..) -/
theorem pe_gK0 {g : List Value → List Value → List Value} {gV : List V → List V → List V} (F : GFn X.prog X.w X.K X.mg X.base cx k f fd ps sp) (hgu : X.A.guards = some []) (hr : Room k X.A) (hg : Gl X x) (hm : X.mg x = some (.ref f)) (hk : PySem.W.keepIn X.K (.ref f) = true)
    (hb : KBinds X.K fd ps ks g gV) (hx : Passes cx X Ex) (hkw : PK X kws tk) (hall : (backToKw pos (keywordEach kws X.env)).all (·.1.isSome) = true := by rfl) (hks : (backToKw pos (keywordEach kws X.env)).filterMap (·.1) = ks := by rfl)
    (hdb : (x == ("__debug__" : Str)) = false := by decide) (hpl : ((backTo pos (starEach [] X.env)).any (·.1) || (backToKw pos (keywordEach kws X.env)).any (·.1.isNone)) = false := by rfl) :
    PE X (.Call (.Name x p) [] kws pos) (tCallK sp gV Ex tNil tk) := by
  refine ⟨fun pins st σ Hx R I h => wpAny_Call_Name_kw (ld_glob I hg hm ?_ hdb)⟩
  refine PySem.W.callWith_KW0 (h₀ := X.base) I.ok.mod.kin hk hall (thn (hkw.run pos pins st σ Hx _ I h) ?_) hpl
  rintro ws s2 ⟨zs, H2, I2, rz, q2⟩
  refine ⟨I2.kIn, ?_⟩
  rw [hks]
  have r2 := hb.rel (Paired.nil : Vals [] []) rz
  exact run_g F hgu hr hx I2 (hb.to s2 [] ws I2.kIn (by rw [← r2.length]; exact F.len _ _ _ _ q2)) r2 q2 rfl
end

/-! ### the law's own call -/
theorem law_g {mb : Str → Option Value} {k : Nat} {fa a : Addr} {fd : FuncData} {x : Str} {sp : Sp} {s1 : Shared} {its : List Value} {ns : List Int}
    (KX : K.In s1.heap) (hmg : s1.heap.Ns mainGlobals mg) (hmb : s1.heap.Ns builtinsNs mb) (hbb : ∀ x : Str, x ≠ "__name__" → mb x = bootBuiltins x) (hlim : s1.heap.NoLimit) (hdig : s1.heap.NoDigits) (hgen : s1.gens = #[])
    (ha : s1.heap.get? a = some { cls := .type "list", data := .seq its.toArray }) (hi : IntsAre its ns) (hl : ns.length ≤ sizeLine) (hr : Room k callerA)
    (F : ∀ ba : Heap, K.In ba → ba.Ns mainGlobals mg → ba.NoDigits → GFn pr wo K mg ba CX0 k fa fd [x] sp) (hbi : ∀ (st : Shared) (u : Value), BindsTo st fd ⟨[u], []⟩ [(x, u)])
    (hsp : ∀ Hx : Hp, Only Hx → SqL K Hx a (ns.map V.int) → sp [.ref a] Hx (fun v _ => v = .bl true) E0) :
    codeAny (model pr wo) callerA (.call (.ref fa) ⟨[.ref a], []⟩) (fun r s2 => r = .ok (.ret (.bool true)) ∧ OldK s1.heap s2.heap ∧ s2.os = s1.os ∧ AllBare s2.gens) s1 := by
  have rv := vals_ints hi
  have main : ∀ Hx : Hp, Only Hx → SqL K Hx a (ns.map V.int) → HOk pr wo Hx s1.heap → (∀ b, Hx b ≠ none → b = a) → (Hx a ≠ none → K.lookup a = none) →
      codeAny (model pr wo) callerA (.call (.ref fa) ⟨[.ref a], []⟩) (fun r s2 => r = .ok (.ret (.bool true)) ∧ OldK s1.heap s2.heap ∧ s2.os = s1.os ∧ AllBare s2.gens) s1 := by
    intro Hx hO hS ok one free
    have isA : ∀ {b : Addr} {u : HO}, Hx b = some u → b = a := fun {b u} q => one b (by rw [q]; nofun)
    have hid : ∀ {b : Addr} {o : Obj}, s1.heap.get? b = some o → Hx b = none → (hidT s1.heap Hx).get? b = some o := fun e n => hidT_get e n
    have noD : ∀ {b : Addr} {o : Obj} {es : Array DictEntry} {ep : Nat}, s1.heap.get? b = some o → o.data = .dict es ep → Hx b = none := by
      intro b o es ep e d
      rcases q : Hx b with _ | u
      · rfl
      · rw [isA q, ha] at e
        cases e
        cases d
    have nsH : ∀ {b : Addr} {m : Str → Option Value}, s1.heap.Ns b m → (hidT s1.heap Hx).Ns b m := by
      rintro b m ⟨o, es, ep, e, d, r⟩
      exact ⟨o, es, ep, hid e (noD e d), d, r⟩
    have kin : K.In (hidT s1.heap Hx) := by
      intro b o e
      refine hid (KX b o e) ?_
      rcases q : Hx b with _ | u
      · rfl
      · have eb := isA q
        subst eb
        rw [free (by rw [q]; nofun)] at e
        cases e
    have hM : Mod K mg (hidT s1.heap Hx) := ⟨kin, nsH hmg, ⟨mb, nsH hmb, hbb⟩, by obtain ⟨mc, h1, h2⟩ := hlim; exact ⟨mc, nsH h1, h2⟩⟩
    have e0 : Env0 pr wo K mg (hidT s1.heap Hx) callerA [] s1 Hx := ⟨rfl, hM, fun b o e => of_hidT e, Nat.le_of_eq (hidT_size _ _), trivial, fun b hb => (nomatch hb), ok, .of_eq hgen⟩
    refine codeAny_mono ((F _ kin (nsH hmg) (by obtain ⟨mc, h1, h2⟩ := hdig; exact ⟨mc, nsH h1, h2⟩)).go callerA [] s1 Hx ⟨[.ref a], []⟩ [.ref a] [.ref a] _ _ rfl hr e0 (hbi s1 (.ref a)) (.cons rfl .nil) (hsp Hx hO hS)) fun r s2 h => ?_
    rcases r with e | fl
    · exact False.elim h
    · cases fl with
      | next => exact False.elim h
      | brk => exact False.elim h
      | cont => exact False.elim h
      | ret u =>
        obtain ⟨v, H2, os, bare, un, ok2, r2, q⟩ := h
        obtain rfl : v = .bl true := q
        obtain rfl : u = Value.bool true := r2
        refine ⟨rfl, OldK.of_keep fun b o e => ?_, os, bare⟩
        rcases q : Hx b with _ | u
        · exact un.keep b o e q (fun z => nomatch z) (fun z => nomatch z)
        · rcases hO b with z | ⟨ob, xs, z⟩
          · rw [q] at z; cases z
          · obtain ⟨e1, _⟩ := ok b _ z
            obtain ⟨e2, _⟩ := ok2 b _ (un.frzs b ob _ z)
            rw [e] at e1
            cases e1
            exact e2
  rcases hk : K.lookup a with _ | o
  · refine main (fun b => if b = a then some (.frz { cls := .type "list", data := .seq its.toArray } (.lst (ns.map V.int))) else none) (fun b => ?_) (.inl (.inr ⟨_, if_pos rfl⟩)) (fun b u z => ?_) (fun b z => ?_) fun _ => hk
    · by_cases hb : b = a
      · exact .inr ⟨_, _, if_pos hb⟩
      · exact .inl (if_neg hb)
    · by_cases hb : b = a
      · cases (if_pos hb).symm.trans z
        subst hb
        exact ⟨ha, by rw [List.length_map]; exact hl, its, _, rv, ha⟩
      · cases (if_neg hb).symm.trans z
    · by_cases hb : b = a
      · exact hb
      · exact absurd (if_neg hb) z
  · have e := KX a o hk
    rw [ha] at e
    cases e
    exact main (fun _ => none) (fun _ => .inl rfl) (.inr ⟨_, its.toArray, _, hk, rfl, rfl, rfl, by rw [List.size_toArray, hi.length]; exact hl, by simpa using rv⟩) (fun b u z => nomatch z) (fun b z => absurd rfl z) fun z => absurd rfl z

theorem walk_g {l : PySem.W.OpenLaw} {n k : Nat} {q : Program} {loose : List Str} {XP : (Str → Option Value) → Heap → Prop} {YP : World → Heap → Prop} {d : DefRec} {K : Params → PySem.W.Frag} {sp : PySem.W.Frag → Sp} {x : Str}
    (hn : l.most = some n) (hn2 : n ≤ sizeLine) (hdf : d.params.defaults = []) (hr : Room k callerA)
    (hY : ∀ (wo : World) (h : Heap), YP wo h → (K wo.params).In h)
    (F : ∀ (wo : World) (mg : Str → Option Value) (fa : Addr) (h : Heap), (K wo.params).In h → h.Ns mainGlobals mg → mg d.name = some (.ref fa) →
      ∃ fd : FuncData, (∀ (st : Shared) (u : Value), BindsTo st fd ⟨[u], []⟩ [(x, u)]) ∧
        ∀ ba : Heap, (K wo.params).In ba → ba.Ns mainGlobals mg → ba.NoDigits → GFn l.prog wo (K wo.params) mg ba CX0 k fa fd [x] (sp (K wo.params)))
    (hsp : ∀ (K : PySem.W.Frag) (Hx : Hp) (a : Addr) (ns : List Int), ns.length ≤ n → Only Hx → SqL K Hx a (ns.map V.int) → sp K [.ref a] Hx (fun v _ => v = .bl true) E0) :
    PySem.W.WalkO q loose XP YP l.row.toRowW d [] (fun f vs => PySem.call f vs) := by
  refine Att.attach_call hn hdf fun w s₀ s₁ mg mb fa o pm cd doc a vs ns G Y ho hd hcd hmg hobj hints hlen hg => ?_
  have KX := hY w _ Y
  obtain ⟨fd, hb, hF⟩ := F w mg fa _ KX G.T.g hmg
  exact law_g KX G.T.g G.T.b G.T.builtins G.T.nolimit G.T.nodigits hg hobj hints (Nat.le_trans hlen hn2) hr hF hb fun Hx hO hS => hsp _ Hx a ns hlen hO hS
end SG

/-! repr of data at any depth, with ints of up to 4300 figures. -/
namespace SG
open PySem PySem.Spec PyProof.Rows L2

mutual
/-- data whose ints can be told -/
def tellable : PyData → Bool
  | .int i => decide (i.natAbs < 10 ^ 4300)
  | .list xs => tellableAll xs
  | .tuple xs => tellableAll xs
  | .dict _ => false
  | .none => true
  | .bool _ => true
  | .str _ => true
def tellableAll : List PyData → Bool
  | [] => true
  | x :: xs => tellable x && tellableAll xs
end

section
variable {pr : Program} {wo : World} {B : Around} {Er : Value → Shared → Prop} {st : Shared}
theorem int_told {i : Int} {t : Tok} {Q : Value → Shared → Prop} (hn : st.heap.NoDigits) (hi : i.natAbs < 10 ^ 4300) (hq : Q (.str (toString i) st.toks) { st with toks := st.toks + 1 }) :
    wpAny (model pr wo) B (call (.builtin "int.__repr__") [.int i t]) Q Er st := by
  refine wpAny_call_entry F.slot_int_repr (typeIs_int st i t) F.entry_int_repr ?_ (F.args_int_repr_1 _)
  unfold Builtin.«int.__repr__»
  show wpAny _ _ (Builtin.overDigitLimit? i >>= _) _ _ st
  exact wpAny_bind (overDigitLimit_any hn (fun h => wpAny_bind (wpAny_mkStr (wpAny_pure ⟨_, rfl, hq⟩) (int_text_fits10 h))) fun h => absurd hi (Nat.not_lt.mpr h))
theorem int_shown {i : Int} {t : Tok} {Q : Value → Shared → Prop} (hu : B.units < cLine) (hn : st.heap.NoDigits) (hi : i.natAbs < 10 ^ 4300) (hq : Q (.str (toString i) st.toks) { st with toks := st.toks + 1 }) :
    wpAny (model pr wo) B (pyReprObj (.int i t)) Q Er st :=
  wpAny_pyReprObj_slot hu (typeIs_int _ i t) F.slot_int_repr.toG (int_told hn hi ⟨_, _, rfl, hq⟩)
theorem int_repr {i : Int} {t : Tok} {Q : Value → Shared → Prop} (hu : B.units + 1 < cLine) (hn : st.heap.NoDigits) (hi : i.natAbs < 10 ^ 4300) (hq : Q (.str (toString i) st.toks) { st with toks := st.toks + 1 }) :
    wpAny (model pr wo) B (call (.builtin "repr") [.int i t]) Q Er st :=
  call_repr_slot hu (typeIs_int _ i t) F.slot_int_repr.toG (int_told hn hi ⟨_, _, rfl, hq⟩)
theorem reprK_int {as : List Addr} {h₀ : Heap} {i : Int} {t : Tok} (hn : h₀.NoDigits) (hi : i.natAbs < 10 ^ 4300) (d : Nat) : ReprK pr wo as h₀ d (.int i t) (toString i) := by
  intro base hb A g E s Q hg hcl hu hk hQ
  rw [pyReprUnder_leaf (v := .int i t) (by omega) (fun _ e => nomatch e)]
  unfold pyRepr
  exact wpAny_bind (int_shown (by omega) (hn.keeps hk) hi (wpAny_pure (hQ s.heap _ fun _ _ e => e)))
mutual
theorem reprK_any {h₀ : Heap} (hn : h₀.NoDigits) : ∀ {v : Value} {d : PyData} {as : List Addr}, Reads h₀ v d as → tellable d = true → d.shown.length ≤ sizeLine →
    ∃ bs, ReadAtMost h₀ d.depth bs ∧ ReprK pr wo bs h₀ d.depth v d.shown := by
  intro v d as r ht hz
  cases r with
  | none => exact ⟨[], (fun _ h => nomatch h), by simp only [PyData.shown]; exact .of_is ReprIs.none _ _ _⟩
  | bool b => exact ⟨[], (fun _ h => nomatch h), by simp only [PyData.shown]; exact .of_is (ReprIs.bool b) _ _ _⟩
  | str x t => exact ⟨[], (fun _ h => nomatch h), by simp only [PyData.shown] at hz ⊢; exact .of_is (ReprIs.str x t hz) _ _ _⟩
  | int i t => exact ⟨[], (fun _ h => nomatch h), by simp only [PyData.shown]; exact reprK_int hn (of_decide_eq_true (by simpa only [tellable] using ht)) _⟩
  | list q1 q2 q3 q4 =>
    rename_i a o arr n xs bs₀
    have hz2 : (listText (PyData.shownAll xs)).length ≤ sizeLine := by simpa only [PyData.shown] using hz
    obtain ⟨bs, rb, kb⟩ := reprAllK_any hn q4 (by simpa [tellable] using ht) fun t m => Nat.le_trans (listText_mem_le m) hz2
    have whole : Reads h₀ (.ref a) (.list xs) _ := .list q1 q2 q3 q4
    refine ⟨a :: bs, ReadAtMost.cons whole (by simp only [PyData.depth]; omega) rb, ?_⟩
    have notIn : a ∉ bs := not_mem_of_deeper whole (by simp only [PyData.depth]; omega) rb
    simp only [PyData.depth, PyData.shown]
    rcases arr with ⟨_ | ⟨y, l⟩⟩
    · cases (show ReadsAll h₀ [] xs _ from q4)
      simp only [PyData.shownAll, listText_nil]
      exact ReprK.listEmpty q1 q2 q3
    · exact ReprK.list q1 q2 q3 notIn (by simpa using kb.length_eq) fun i y e => kb.item i y (by simpa using e)
  | tuple q1 q2 q3 q4 =>
    rename_i a o arr n xs
    have hz2 : (tupleText (PyData.shownAll xs)).length ≤ sizeLine := by simpa only [PyData.shown] using hz
    obtain ⟨bs, rb, kb⟩ := reprAllK_any hn q4 (by simpa [tellable] using ht) fun t m => Nat.le_trans (tupleText_mem_le m) hz2
    have whole : Reads h₀ (.ref a) (.tuple xs) _ := .tuple q1 q2 q3 q4
    refine ⟨a :: bs, ReadAtMost.cons whole (by simp only [PyData.depth]; omega) rb, ?_⟩
    have notIn : a ∉ bs := not_mem_of_deeper whole (by simp only [PyData.depth]; omega) rb
    simp only [PyData.depth, PyData.shown]
    exact ReprK.tuple q1 q2 q3 notIn kb
  | dict => simp [tellable] at ht
theorem reprAllK_any {h₀ : Heap} (hn : h₀.NoDigits) : ∀ {vs : List Value} {ds : List PyData} {as : List Addr}, ReadsAll h₀ vs ds as → tellableAll ds = true → (∀ t ∈ PyData.shownAll ds, t.length ≤ sizeLine) →
    ∃ bs, ReadAtMost h₀ (PyData.depthAll ds) bs ∧ ReprAllK pr wo bs h₀ (PyData.depthAll ds) vs (PyData.shownAll ds) := by
  intro vs ds as r ht hz
  cases r with
  | nil => exact ⟨[], (fun _ h => nomatch h), by simp only [PyData.shownAll]; exact .nil⟩
  | cons q1 q2 =>
    rename_i v vs d ds as₁ as₂
    have ht2 : tellable d = true ∧ tellableAll ds = true := by simpa [tellableAll] using ht
    obtain ⟨c1, rc1, k1⟩ := reprK_any hn q1 ht2.1 (hz _ (by simp only [PyData.shownAll]; exact List.mem_cons_self))
    obtain ⟨c2, rc2, k2⟩ := reprAllK_any hn q2 ht2.2 fun t m => hz t (by simp only [PyData.shownAll]; exact List.mem_cons_of_mem _ m)
    refine ⟨c1 ++ c2, (rc1.mono ?_).append (rc2.mono ?_), ?_⟩
    · simp only [PyData.depthAll]; exact Nat.le_max_left _ _
    · simp only [PyData.depthAll]; exact Nat.le_max_right _ _
    · simp only [PyData.depthAll, PyData.shownAll]
      exact .cons ((k1.more fun b m => List.mem_append_left _ m).level_le (Nat.le_max_left _ _)) (k2.more_le (fun b m => List.mem_append_right _ m) (Nat.le_max_right _ _))
end
/-- repr of what is no leaf -/
theorem repr_ref {h₀ : Heap} {a : Addr} {d : PyData} {as : List Addr} {Q : Value → Shared → Prop} (hn : h₀.NoDigits) (r : Reads h₀ (.ref a) d as) (ht : tellable d = true) (hz : d.shown.length ≤ sizeLine)
    (hg : B.guards = some []) (hu : B.units + (d.depth + 1) < cLine) (hk : ∀ b o, h₀.get? b = some o → st.heap.get? b = some o)
    (hQ : ∀ h2 u tk, (∀ b o, st.heap.get? b = some o → h2.get? b = some o) → Q (.str d.shown u) { st with heap := h2, toks := tk }) :
    wpAny (model pr wo) B (call (.builtin "repr") [.ref a]) Q Er st := by
  cases r with
  | list q1 q2 q3 q4 =>
    rename_i o arr n xs bs₀
    have whole : Reads h₀ (.ref a) (.list xs) _ := .list q1 q2 q3 q4
    simp only [PyData.depth] at hu
    simp only [PyData.shown] at hQ hz
    obtain ⟨bs, rb, kb⟩ := reprAllK_any (pr := pr) (wo := wo) hn q4 (by simpa [tellable] using ht) fun t m => Nat.le_trans (listText_mem_le m) hz
    have notIn : a ∉ bs := not_mem_of_deeper whole (by simp only [PyData.depth]; omega) rb
    refine call_repr_slot (by omega) ⟨o, hk _ _ q1, q2⟩ F.slot_list_repr.toG ?_
    rcases arr with ⟨_ | ⟨y, l⟩⟩
    · cases (show ReadsAll h₀ [] xs _ from q4)
      simp only [PyData.shownAll, listText_nil] at hQ
      exact call_list_repr_empty ⟨o, hk _ _ q1, q2⟩ (hk _ _ q1) q3 ⟨_, _, rfl, hQ st.heap _ _ fun _ _ e => e⟩
    · exact call_list_reprK q1 q2 q3 notIn (by simpa using kb.length_eq) (fun i y e => kb.item i y (by simpa using e)) hg (fun b _ => Clear.nil b) (by show B.units + 1 + _ < _; omega) hk (fun h2 u tk q => ⟨_, _, rfl, hQ h2 u tk q⟩) hz
  | tuple q1 q2 q3 q4 =>
    rename_i o arr n xs
    have whole : Reads h₀ (.ref a) (.tuple xs) _ := .tuple q1 q2 q3 q4
    simp only [PyData.depth] at hu
    simp only [PyData.shown] at hQ hz
    obtain ⟨bs, rb, kb⟩ := reprAllK_any (pr := pr) (wo := wo) hn q4 (by simpa [tellable] using ht) fun t m => Nat.le_trans (tupleText_mem_le m) hz
    have notIn : a ∉ bs := not_mem_of_deeper whole (by simp only [PyData.depth]; omega) rb
    refine call_repr_slot (by omega) ⟨o, hk _ _ q1, q2⟩ F.slot_tuple_repr ?_
    exact call_tuple_reprK q1 q2 q3 notIn kb hg (fun b _ => Clear.nil b) (by show B.units + 1 + _ < _; omega) hk (fun h2 u tk q => ⟨_, _, rfl, hQ h2 u tk q⟩) hz
  | dict => simp [tellable] at ht
/-- repr of the empty dict -/
theorem repr_dict0 {a : Addr} {o : Obj} {n : Nat} {Q : Value → Shared → Prop} (q1 : st.heap.get? a = some o) (q2 : o.cls = .type "dict") (q3 : o.data = .dict #[] n) (hs : (a == sysModules) = false)
    (hg : B.guards = some []) (hu : B.units + 2 < cLine)
    (hQ : ∀ h2 u tk, (∀ b o, st.heap.get? b = some o → h2.get? b = some o) → Q (.str "{}" u) { st with heap := h2, toks := tk }) :
    wpAny (model pr wo) B (call (.builtin "repr") [.ref a]) Q Er st := by
  have r : Reads st.heap (.ref a) (.dict []) ([a] ++ []) := .dict (as := []) (bs := []) q1 q2 q3 .nil .nil
  refine repr_of_reads' (d := .dict []) r rfl (fun _ m => ?_) hg (by show B.units + (PyData.depth (.dict []) + 1) < _; simp only [PyData.depth, PyData.depthKv]; omega) (fun _ _ e => e) ?_ (by decide +kernel)
  · have e : sysModules = a := by simpa using m
    rw [e] at hs
    simp at hs
  · have e : PyData.shown (.dict []) = "{}" := by decide +kernel
    rw [e]
    exact hQ
end

section
variable {X : Cx}
/-- no limit of its own was put to the figures of ints -/
theorem digs {pins : List (Addr × Obj)} {σ : L2.St} {Hx : Hp} {st : Shared} (hn : X.base.NoDigits) (I : Inv X pins σ Hx st) : st.heap.NoDigits := hn.keeps I.bk
def rRepr (K : PySem.W.Frag) : List V → Hp → VK → Prop := fun xs Hx R => ∃ x, xs = [x] ∧
  ((∃ d, Dp K Hx x d ∧ tellable d = true ∧ d.depth ≤ 60 ∧ d.shown.length ≤ sizeLine ∧ R (.str d.shown) Hx) ∨ (∃ a, x = .ref a ∧ Hx a = some (.dK []) ∧ R (.str "{}") Hx))
theorem call_reprG (hn : X.base.NoDigits) (hg : X.A.guards = some []) {k : Nat} (hr : Room k X.A) : CallR X (.builtin "repr") (rRepr X.K) := by
  intro pins st σ Hx xs us R I rv h
  obtain ⟨x, rfl, h⟩ := h
  obtain ⟨u, rfl, rx⟩ : ∃ u, us = [u] ∧ RelV x u := by
    cases rv with
    | cons a b => cases b; exact ⟨_, rfl, a⟩
  have hu := hr.units
  rcases h with ⟨d, hd, ht, hdep, hz, q⟩ | ⟨a, rfl, ha, q⟩
  · cases x with
    | ref a =>
      obtain ⟨as, r⟩ := Dp.reads I d (.ref a) u hd rx
      obtain rfl : u = Value.ref a := rx
      exact repr_ref (digs hn I) r ht hz hg (by omega) (fun _ _ e => e) fun h2 u tk hk => ⟨.str _, Hx, I.kept (t' := tk) hk, ⟨_, rfl⟩, q⟩
    | int i =>
      obtain ⟨t, rfl⟩ := rx
      cases hd
      simp only [PyData.shown] at q
      exact int_repr (by omega) (digs hn I) (of_decide_eq_true (by simpa only [tellable] using ht)) ⟨.str _, Hx, I.tok _, ⟨_, rfl⟩, q⟩
    | str y =>
      obtain ⟨t, rfl⟩ := rx
      cases hd
      simp only [PyData.shown] at q hz
      exact PySem.P.repr_of_str ⟨.str _, Hx, I.tok _, ⟨_, rfl⟩, q⟩ hz
    | bl b =>
      obtain rfl : u = Value.bool b := rx
      cases hd
      simp only [PyData.shown] at q
      exact PySem.P.repr_of_bool ⟨.str _, Hx, I.tok _, ⟨_, rfl⟩, q⟩
    | non =>
      obtain rfl : u = Value.none := rx
      cases hd
      simp only [PyData.shown] at q
      exact PySem.P.repr_of_none ⟨.str _, Hx, I.tok _, ⟨_, rfl⟩, q⟩
    | byt b => cases hd
    | flt b => cases hd
    | ty b => cases hd
  · obtain rfl : u = Value.ref a := rx
    obtain ⟨_, hs, vs, kv, o, es, ep, e1, e2, e3, e4, e5, _⟩ := I.hok a _ ha
    cases kv
    have e6 : es = #[] := by
      cases es with
      | mk l => cases l with
        | nil => rfl
        | cons y l => cases e5
    subst e6
    exact repr_dict0 e1 e2.1 e3 hs hg (by omega) fun h2 u tk hk => ⟨.str _, Hx, I.kept (t' := tk) hk, ⟨_, rfl⟩, q⟩
end
end SG

/-! enumerate of a tuple. -/
namespace SG
open PySem PySem.Spec PyProof.Rows L2

set_option maxHeartbeats 1000000 in
theorem meets_enum1 {v : Value} {o : Obj} {Ho : Heap → Prop} (B : Begins v o Ho) :
    Meets (Builtin.«enumerate.__new__» ⟨[.type "enumerate", v], []⟩) (fun _ R st => Ho st.heap ∧
      R (.ok (.ret (.ref (st.heap.push o).objs.size))) { st with heap := (st.heap.push o).push { cls := .type "enumerate", data := .fields #[.none, .bool false, .ref st.heap.objs.size, rawInt 0, .none, .none] } }) :=
  .of_wp fun prog w A R st h => by
    obtain ⟨hp, g, d, tk, os⟩ := st
    obtain ⟨h1, h⟩ := h
    have hsub := sub_enumerate
    have it1 : ∀ {A' : Around} {E : Value → Shared → Prop} {Q : Value → Shared → Prop}, Q (.ref hp.objs.size) ⟨hp.push o, g, d, tk, os⟩ → wpAny (model prog w) A' (pyIter v) Q E ⟨hp, g, d, tk, os⟩ :=
      fun q => B.iter prog w _ _ ⟨hp, g, d, tk, os⟩ _ h1 q
    wp_walk using it1
    refine wpAny_stack_any fun stk => wpAny_pure ?_
    split
    · rename_i c _ _ _ _ _
      cases (c == Value.type "enumerate")
      · wp_walk using it1
        exact ⟨_, rfl, h⟩
      · wp_walk using it1
        exact ⟨_, rfl, h⟩
    · wp_walk using it1
      exact ⟨_, rfl, h⟩
section
variable {prog : Program} {w : World} {A : Around} {E : Value → Shared → Prop} {st : Shared}
theorem enum1_begins {v : Value} {o : Obj} {Ho : Heap → Prop} {Q : Value → Shared → Prop} (B : Begins v o Ho) (h1 : Ho st.heap)
    (h : ∀ h2, IsEnum h2 (st.heap.objs.size + 1) st.heap.objs.size 0 .none → h2.get? st.heap.objs.size = some o → h2.objs.size = st.heap.objs.size + 2 →
      (∀ b u, st.heap.get? b = some u → h2.get? b = some u) → Q (.ref (st.heap.objs.size + 1)) { st with heap := h2 }) :
    wpAny (model prog w) A (call (.type "enumerate") [v]) Q E st := by
  refine callType_new F.called_enumerate (by decide) (F.typeCall_enumerate_1 _) (F.newCall_enumerate_1 _) (fun obj => F.args_object_init_2 obj _) F.entry_enumerate_new (meets_enum1 B) ⟨h1, ?_⟩
  have hz : (st.heap.push o).objs.size = st.heap.objs.size + 1 := Heap.size_push ..
  show _ ∧ _
  rw [hz]
  have he : IsEnum ((st.heap.push o).push { cls := .type "enumerate", data := .fields #[.none, .bool false, .ref st.heap.objs.size, rawInt 0, .none, .none] }) (st.heap.objs.size + 1) st.heap.objs.size 0 .none := by
    have z := Heap.get?_push_size (st.heap.push o) (o := { cls := .type "enumerate", data := .fields #[.none, .bool false, .ref st.heap.objs.size, rawInt 0, .none, .none] }) rfl
    rw [hz] at z
    exact z
  exact ⟨⟨_, he, rfl⟩, h _ he (Heap.get?_push_of_some _ (Heap.get?_push_size _ B.free)) (by rw [Heap.size_push, hz]) fun b u x => Heap.get?_push_of_some _ (Heap.get?_push_of_some _ x)⟩
end

/-- the tuple at a, each item in a new pair -/
def IteT (K : PySem.W.Frag) (a : Addr) : It :=
  ⟨fun i Hx => ∃ (xs : List V) (x : V), SqT K Hx a xs ∧ xs[i]? = some x, fun i Hx v H2 => ∃ T x, v = .ref T ∧ Hx T = none ∧ H2 = upd Hx T (.tup [.int (i : Nat), x]) ∧ ∀ xs, SqT K Hx a xs → xs[i]? = some x, fun i Hx => ∃ xs : List V, SqT K Hx a xs ∧ xs.length ≤ i⟩
theorem turn_enumT {P : Program} {w : World} {K : PySem.W.Frag} {elts : List Expr} {kk : Nat} {tpos : Pos} (a e it : Addr) :
    Turn P w K (.Tuple elts kk tpos) (IteT K a) [e, it] e (fun i h => (∃ old, IsEnum h e it ((i : Nat) : Int) old) ∧ h.IsTupleIter it a i ∧ e ≠ it ∧ a ≠ it ∧ a ≠ e) where
  mem := by simp
  obj := fun i h q b hb => by
    obtain ⟨⟨old, he⟩, ⟨o, ho, hc, hd⟩, _⟩ := q
    rcases (show b = e ∨ b = it by simpa using hb) with z | z
    · rw [z]; exact ⟨_, he, fun v q => nomatch q⟩
    · rw [z]; exact ⟨o, ho, fun v q => by rw [hd] at q; cases q⟩
  keep := fun i h h2 q k => by
    obtain ⟨⟨old, he⟩, hi, hne⟩ := q
    exact ⟨⟨old, k e (by simp) _ he⟩, hi.at fun o q => k it (by simp) o q, hne⟩
  item := by
    intro X hP hw hK hc i pins st σ Hx E I hf q hg
    subst hP hw hK
    obtain ⟨⟨old, he⟩, hit, hne, n1, n2⟩ := q
    obtain ⟨xs, x, hq, hx⟩ := hg
    obtain ⟨its, rv, p, hz⟩ := I.tuple hq
    obtain ⟨u, hu, ru⟩ := rv.get hx
    have hel : e < st.heap.objs.size := Heap.lt_size he
    have hil : it < st.heap.objs.size := by obtain ⟨_, z, _⟩ := hit; exact Heap.lt_size z
    have hi : i < its.toArray.size := by
      have z := (List.getElem?_eq_some_iff.mp hu).1
      simpa using z
    refine wpAny_pyNext_enum_itemD (Draws.tuple (prog := X.prog) (w := X.w) (A := X.A.in1) (I.ok.hd hc) it a n1 its.toArray) he ⟨hit, p⟩ hi hne (by simp [hne, n2.symm]) fun y h1 tk hy ho hs1 hT hsz hk => ?_
    obtain rfl : y = u := by
      rw [show its.toArray[i]? = some u by simpa using hu] at hy
      exact (Option.some.inj hy).symm
    refine ⟨_, rfl, wpAny_letOwnedTupleGo_enum (s := { st with heap := h1, toks := tk + 1 }) ho fun h2 he2 sb => ?_⟩
    have hT2 : h2.get? st.heap.objs.size = some { cls := .type "tuple", data := .seq #[.int i tk, y] } := (sb.2 _ (Nat.ne_of_gt hel)).trans hT
    have new : ObjOk X.prog X.w (upd Hx st.heap.objs.size (.tup [.int (i : Nat), x])) h2 st.heap.objs.size (.tup [.int (i : Nat), x]) :=
      ⟨by show 2 ≤ sizeLine; decide, [.int i tk, y], .cons ⟨_, rfl⟩ (.cons ru .nil), ⟨_, hT2, rfl, _, rfl⟩⟩
    have I1 : L2.Inv X pins σ (upd Hx st.heap.objs.size (.tup [.int (i : Nat), x])) { st with heap := h2, toks := tk + 1 } :=
      I.turnedNew (ch := [e, it]) (fun b ob hb z => (sb.2 b (fun z => hb (by simp [z]))).trans (hk b ob (fun z => hb (by simp [z])) (fun z => hb (by simp [z])) z)) hf (Nat.le_refl _) new
    refine ⟨.ref st.heap.objs.size, _, I1, rfl, ⟨_, x, rfl, I.hok.fresh (Nat.le_refl _), rfl, fun ys hy => by rw [I.tuple_inj hy hq]; exact hx⟩, ⟨⟨y, ?_⟩, hs1.1.at fun o z => (sb.2 it (Ne.symm hne)).trans z, hne, n1, n2⟩, fun b hb => ?_⟩
    · rw [show ((i + 1 : Nat) : Int) = (i : Int) + 1 by omega]
      exact he2
    · have hb2 : b < st.heap.objs.size := by
        rcases (show b = e ∨ b = it by simpa using hb) with z | z
        · rw [z]; exact hel
        · rw [z]; exact hil
      rw [upd_ne (Nat.ne_of_lt hb2)]
      exact (hf b hb).1
  done := by
    intro X hP hw hK hc i pins st σ Hx E I hf q hg
    subst hP hw hK
    obtain ⟨⟨old, he⟩, hit, hne, n1, n2⟩ := q
    obtain ⟨xs, hq, hx⟩ := hg
    obtain ⟨its, rv, p, hz⟩ := I.tuple hq
    obtain ⟨f0, f1, f2, f3, f4, f5⟩ := hf it (by simp)
    have hl := rv.length
    have D : Draws X.prog X.w X.A.in1 it [it, a] i (fun _ _ => True) (fun j h => j = i ∧ h.IsTupleIter it a i ∧ h.IsTuple a its.toArray) :=
      { live := fun _ _ z => by obtain ⟨_, ⟨o, ho, _⟩, _⟩ := z; exact ⟨o, ho⟩
        frame := fun _ _ _ z hk => ⟨z.1, z.2.1.at fun o e => hk it (by simp) o e, z.2.2.at fun o e => hk a (by simp) o e⟩
        item := fun j s Q E hj z => absurd z.1 (Nat.ne_of_lt hj)
        done := fun s Q E z hE => wpAny_nextOf_tuple_end (I.ok.hd hc) z.2.1 z.2.2 (by simp; omega) hE }
    exact wpAny_pyNext_enum_endD D he ⟨rfl, hit, p⟩ fun h2 eb => ⟨rfl, I.turned (t' := st.toks) (fun b o hb q => eb b o hb q) f0 f1 f3 f4 f5⟩
  self := fun A i st Q E q h => by
    obtain ⟨⟨_, he⟩, _⟩ := q
    exact wpAny_pyIter_enum he h
def iEnumT (K : PySem.W.Frag) (ta : TA) : TI := fun σ Hx R => ta σ Hx fun vs H1 => ∃ a xs, vs = [.ref a] ∧ SqT K H1 a xs ∧ R (IteT K a) H1
theorem pi_enumT {X : Cx} {e : Expr} {ta : TA} {p pos tpos : Pos} {elts : List Expr} {kk : Nat} (hg : Gl X "enumerate") (hm : X.mg "enumerate" = none) (ha : PA X [e] ta) (hs : starEach [e] X.env = [(false, eval e X.env)] := by rfl) :
    PI X (.Tuple elts kk tpos) (.Call (.Name "enumerate" p) [e] [] pos) (iEnumT X.K ta) := by
  refine ⟨fun pins st σ Hx R I h => ?_⟩
  refine Call_ (ld_blt I hg hm boot_enumerate (PyProof.Rows.callWith_type1 (thn (ha.run pos pins st σ Hx _ I h) ?_) hs rfl))
  rintro us s1 ⟨vs, H1, I1, r1, a, xs, rfl, hq, q⟩
  obtain ⟨u, rfl, ru⟩ : ∃ u, us = [u] ∧ RelV (.ref a) u := by
    cases r1 with
    | cons x y => cases y; exact ⟨_, rfl, x⟩
  obtain rfl : u = Value.ref a := ru
  obtain ⟨its, rv, p2, hz⟩ := I1.tuple hq
  have al : a < s1.heap.objs.size := p2.lt
  refine enum1_begins (begins_tuple a its.toArray) p2 fun h2 he hit hsz hk => wpAny_pyIter_enum he ?_
  have I2 : L2.Inv X pins σ H1 { s1 with heap := h2 } := I1.kept (t' := s1.toks) hk
  refine ⟨s1.heap.objs.size + 1, [s1.heap.objs.size + 1, s1.heap.objs.size], _, _, H1, rfl, I2, turn_enumT a (s1.heap.objs.size + 1) s1.heap.objs.size,
    ⟨⟨.none, he⟩, ⟨_, hit, rfl, rfl⟩, Nat.succ_ne_self _, Nat.ne_of_lt al, Nat.ne_of_lt (Nat.lt_succ_of_lt al)⟩, fun b hb => ?_, q⟩
  have hle : s1.heap.objs.size ≤ b := by
    rcases (show b = s1.heap.objs.size + 1 ∨ b = s1.heap.objs.size by simpa using hb) with z | z
    · rw [z]; exact Nat.le_succ _
    · rw [z]; exact Nat.le_refl _
  exact I1.fpOk hle (I1.hok.fresh hle)
end SG

/-! The deck that laws draw from; what stays when it is drawn from. -/
namespace SG
open PySem PySem.Spec PyProof.Rows L2

abbrev kC : Key := Sum.inr ("cells" : Str)
abbrev kM : Key := Sum.inr ("mixed" : Str)
abbrev kD : Key := Sum.inr ("draws" : Str)
theorem kne1 : ¬ kC = kM := by decide +kernel
theorem kne2 : ¬ kC = kD := by decide +kernel
theorem kne3 : ¬ kM = kD := by decide +kernel
def deckO (l : Addr) (m n : Int) : List (Key × V) := [(kC, .ref l), (kM, .int m), (kD, .int n)]
theorem deck_cells (l : Addr) (m n : Int) : valV (deckO l m n) kC = some (.ref l) := valV_pos rfl
theorem deck_mixed (l : Addr) (m n : Int) : valV (deckO l m n) kM = some (.int m) := (valV_neg kne1).trans (valV_pos rfl)
theorem deck_draws (l : Addr) (m n : Int) : valV (deckO l m n) kD = some (.int n) := (valV_neg kne2).trans ((valV_neg kne3).trans (valV_pos rfl))
theorem deck_put (l : Addr) (m n k : Int) : putK (deckO l m n) kD (.int k) = deckO l m k := by
  have e : (decide (kD = kD)) = true := decide_eq_true rfl
  show (if (decide (kC = kD) || (decide (kM = kD) || (decide (kD = kD) || false))) = true then [if kC = kD then (kC, V.int k) else (kC, V.ref l), if kM = kD then (kM, V.int k) else (kM, V.int m), if kD = kD then (kD, V.int k) else (kD, V.int n)] else _) = _
  rw [decide_eq_false kne2, decide_eq_false kne3, e, if_neg kne2, if_neg kne3, if_pos rfl]
  rfl
theorem deck_made (l : Addr) (m n : Int) : mergeK [] (deckO l m n) = deckO l m n := by
  have e1 : putK ([] : List (Key × V)) kC (.ref l) = [(kC, .ref l)] := rfl
  have e2 : putK [(kC, V.ref l)] kM (.int m) = [(kC, .ref l), (kM, .int m)] := by
    show (if (decide (kC = kM) || false) = true then _ else [(kC, V.ref l)] ++ [(kM, V.int m)]) = _
    rw [decide_eq_false kne1]
    rfl
  have e3 : putK [(kC, V.ref l), (kM, V.int m)] kD (.int n) = deckO l m n := by
    show (if (decide (kC = kD) || (decide (kM = kD) || false)) = true then _ else [(kC, V.ref l), (kM, V.int m)] ++ [(kD, V.int n)]) = _
    rw [decide_eq_false kne2, decide_eq_false kne3]
    rfl
  show putK (putK (putK [] kC (.ref l)) kM (.int m)) kD (.int n) = _
  rw [e1, e2, e3]

/-- a deck stands at d, its cells at l; it was asked at most c times -/
def Deck (H : Hp) (d l : Addr) (c : Nat) : Prop :=
  ∃ (cs : List Int) (m n : Int), H d = some (.dK (deckO l m n)) ∧ H l = some (.lst (cs.map V.int)) ∧ (0 ≤ m ∧ m < 2147483648) ∧ (0 ≤ n ∧ n ≤ (c : Int)) ∧ cs.length ≤ 63
/-- all stays but the deck and its cells -/
def Kept (d l : Addr) (H H2 : Hp) : Prop := ∀ b o, H b = some o → b ≠ d → b ≠ l → H2 b = some o
theorem Kept.refl (d l : Addr) (H : Hp) : Kept d l H H := fun _ _ e _ _ => e
theorem Kept.trans {d l : Addr} {H H1 H2 : Hp} (a : Kept d l H H1) (b : Kept d l H1 H2) : Kept d l H H2 := fun c o e h1 h2 => b c o (a c o e h1 h2) h1 h2
theorem Kept.of {d l : Addr} {H H1 : Hp} (a : Same H H1) : Kept d l H H1 := fun c o e _ _ => a c o e
theorem Deck.mono {H : Hp} {d l : Addr} {c e : Nat} (D : Deck H d l c) (h : c ≤ e) : Deck H d l e := by
  obtain ⟨cs, m, n, h1, h2, h3, h4, h5⟩ := D
  exact ⟨cs, m, n, h1, h2, h3, ⟨h4.1, by omega⟩, h5⟩
theorem Deck.same {H H1 : Hp} {d l : Addr} {c : Nat} (D : Deck H d l c) (s : Same H H1) : Deck H1 d l c := by
  obtain ⟨cs, m, n, h1, h2, h3⟩ := D
  exact ⟨cs, m, n, s _ _ h1, s _ _ h2, h3⟩
theorem Deck.upd {H : Hp} {d l p : Addr} {c : Nat} {o : HO} (D : Deck H d l c) (hp : H p = none) : Deck (upd H p o) d l c := by
  obtain ⟨cs, m, n, h1, h2, h3⟩ := D
  exact ⟨cs, m, n, by rw [upd_ne (ne_of_none h1 hp)]; exact h1, by rw [upd_ne (ne_of_none h2 hp)]; exact h2, h3⟩
theorem same_new {H : Hp} {p : Addr} {o : HO} (h : H p = none) : Same H (upd H p o) := fun b x e => by
  rw [upd_ne (ne_of_none e h)]
  exact e
/-- tuples stay -/
theorem Kept.tup {K : PySem.W.Frag} {d l : Addr} {H H2 : Hp} {c : Nat} {a : Addr} {xs : List V} (k : Kept d l H H2) (D : Deck H d l c) (h : SqT K H a xs) : SqT K H2 a xs := by
  obtain ⟨cs, m, n, h1, h2, _⟩ := D
  rcases h with (h | ⟨o, h⟩) | h
  · exact .inl (.inl (k _ _ h (ne_of h h1 nofun) (ne_of h h2 nofun)))
  · exact .inl (.inr ⟨o, k _ _ h (ne_of h h1 nofun) (ne_of h h2 nofun)⟩)
  · exact .inr h
theorem sameT {K : PySem.W.Frag} {H H2 : Hp} {a : Addr} {xs : List V} (s : Same H H2) (h : SqT K H a xs) : SqT K H2 a xs := by
  rcases h with (h | ⟨o, h⟩) | h
  · exact .inl (.inl (s _ _ h))
  · exact .inl (.inr ⟨o, s _ _ h⟩)
  · exact .inr h
/-! ### ints as data -/
def dI (ns : List Int) : List PyData := ns.map PyData.int
theorem dpInts {K : PySem.W.Frag} {H : Hp} : ∀ ns : List Int, DpAll K H (ns.map V.int) (dI ns)
  | [] => .nil
  | n :: ns => .cons (.int n) (dpInts ns)
theorem layI : ∀ ns : List Int, PyData.canLayAll0 (dI ns) = true
  | [] => by simp [dI, PyData.canLayAll0]
  | n :: ns => by
    show PyData.canLayAll0 (PyData.int n :: dI ns) = true
    simp [PyData.canLayAll0, PyData.canLay0, layI ns]
theorem depI : ∀ ns : List Int, PyData.depthAll (dI ns) = 0
  | [] => by simp [dI, PyData.depthAll]
  | n :: ns => by
    show PyData.depthAll (PyData.int n :: dI ns) = 0
    simp [PyData.depthAll, PyData.depth, depI ns]
theorem shI (ns : List Int) : SeqAt.shaped (.list (dI ns)) = true := by
  simp [SeqAt.shaped, PyData.canLay0, PyData.depth, layI, depI]
theorem shTI (ns : List Int) : SeqAt.shaped (.tuple (dI ns)) = true := by
  simp [SeqAt.shaped, PyData.canLay0, PyData.depth, layI, depI]
theorem eqvI_nil : ∀ ns : List Int, PyData.eqv (.list (dI ns)) (.list []) = ns.isEmpty
  | [] => by simp [dI, PyData.eqv, PyData.eqvAll]
  | n :: ns => by
    show PyData.eqv (.list (PyData.int n :: dI ns)) (.list []) = false
    simp [PyData.eqv, PyData.eqvAll]
theorem dgCells {H : Hp} {d l : Addr} {m n : Int} (h : H d = some (.dK (deckO l m n))) : DGet H d (.str "cells") (some (.ref l)) := by
  have z := DGet.k (k := kC) h
  rw [deck_cells] at z
  exact z
theorem dgMixed {H : Hp} {d l : Addr} {m n : Int} (h : H d = some (.dK (deckO l m n))) : DGet H d (.str "mixed") (some (.int m)) := by
  have z := DGet.k (k := kM) h
  rw [deck_mixed] at z
  exact z
theorem dgDraws {H : Hp} {d l : Addr} {m n : Int} (h : H d = some (.dK (deckO l m n))) : DGet H d (.str "draws") (some (.int n)) := by
  have z := DGet.k (k := kD) h
  rw [deck_draws] at z
  exact z
theorem dpDraws {H : Hp} {d l : Addr} {m n : Int} (k : Int) (h : H d = some (.dK (deckO l m n))) : DPut H d (.str "draws") (.int k) (upd H d (.dK (deckO l m k))) := by
  have z := DPut.k (k := kD) (v := .int k) h (by show 3 < sizeLine; decide)
  rw [deck_put] at z
  exact z
theorem ifT {b : Bool} {A B : Prop} (h : b = true) (a : A) : if b = true then A else B := by
  rw [if_pos h]
  exact a
theorem ifF {b : Bool} {A B : Prop} (h : b = false) (a : B) : if b = true then A else B := by
  rw [h]
  exact iteF a
theorem mod_lo {a b : Int} (h : 0 < b) : 0 ≤ a % b := Int.emod_nonneg a (by omega)
theorem mod_hi {a b : Int} (h : 0 < b) : a % b < b := Int.emod_lt_of_pos a h
end SG

namespace SG
open PySem PySem.Spec PyProof.Rows L2

theorem Kept.lst {K : PySem.W.Frag} {d l : Addr} {H H2 : Hp} {c : Nat} {a : Addr} {xs : List V} (k : Kept d l H H2) (D : Deck H d l c) (hl : a ≠ l) (h : SqL K H a xs) : SqL K H2 a xs := by
  obtain ⟨cs, m, n, h1, h2, _⟩ := D
  rcases h with (h | ⟨o, h⟩) | h
  · exact .inl (.inl (k _ _ h (ne_of h h1 nofun) hl))
  · exact .inl (.inr ⟨o, k _ _ h (ne_of h h1 nofun) hl⟩)
  · exact .inr h
theorem Deck.ne {H : Hp} {d l p : Addr} {c : Nat} (D : Deck H d l c) (h : H p = none) : p ≠ d ∧ p ≠ l := by
  obtain ⟨cs, m, n, h1, h2, _⟩ := D
  exact ⟨(ne_of_none h1 h).symm, (ne_of_none h2 h).symm⟩
theorem wipe1 (σ : L2.St) (s : Nat) (x : Option V) : wipe ((wipe σ [s]).set s x) [s] = wipe σ [s] := by
  show (List.set (List.set (List.set σ s none) s x) s none) = List.set σ s none
  rw [List.set_set, List.set_set]
theorem yesI {A B : Hp → Prop} {σ : L2.St} {H : Hp} (h : A H) : tYes σ H (fun b H4 => if b = true then A H4 else B H4) := by
  show (if (true : Bool) = true then A H else B H)
  rw [if_pos rfl]
  exact h
/-- a list of ints that are drawn, turn by turn -/
theorem lc_draws {d l D : Addr} {c n s : Nat} {te : TE} {σ : L2.St} {H1 : Hp} {Qd : Hp → Prop} {B : Int → Prop} (D0 : Deck H1 d l c) (hD : H1 D = none) (hn : n ≤ 1000)
    (turn : ∀ (i : Nat) (H2 : Hp), i < n → Deck H2 d l (c + i) → Kept d l H1 H2 → ∀ R : VK, (∀ (x : Int) (H3 : Hp), B x → Deck H3 d l (c + i + 1) → Kept d l H2 H3 → R (.int x) H3) → te ((wipe σ [s]).set s (some (.int (0 + i)))) H2 R)
    (done : ∀ (xs : List Int) (H2 : Hp), xs.length = n → (∀ x ∈ xs, B x) → H2 D = some (.lst (xs.map V.int)) → Deck H2 d l (c + n) → Kept d l H1 H2 → Qd H2) :
    ∃ W : Nat → Nat → Hp → Prop, (∃ m, W 0 m (upd H1 D (.lst []))) ∧ ∀ i m H, W i m H →
      ((Itr 0 n).stop i H ∧ Qd H) ∨ ((Itr 0 n).go i H ∧ ∃ Nx : Hp → Prop, (∀ H2, Nx H2 → ∃ m2, m2 < m ∧ W (i + 1) m2 H2) ∧ ∀ x H2, (Itr 0 n).yld i H x H2 → gName s x (wipe σ [s]) H2 fun σ2 H3 => wipe σ2 [s] = wipe σ [s] ∧ tYes σ2 H3 fun b H4 =>
        if b = true then te σ2 H4 fun y H5 => ∃ acc, H5 D = some (.lst acc) ∧ acc.length < sizeLine ∧ Nx (upd H5 D (.lst (acc ++ [y]))) else Nx H4) := by
  obtain ⟨nd, nl⟩ := D0.ne hD
  refine lc_range (fun i H2 => ∃ xs : List Int, xs.length = i ∧ (∀ x ∈ xs, B x) ∧ H2 D = some (.lst (xs.map V.int)) ∧ Deck H2 d l (c + i) ∧ Kept d l H1 H2) ?_ ?_ ?_
  · exact ⟨[], rfl, (fun _ h => absurd h List.not_mem_nil), upd_same, D0.upd hD, .of (same_new hD)⟩
  · rintro i H2 hi ⟨xs, hx, hB, hD2, D2, k2⟩
    refine ⟨wipe1 _ _ _, ?_⟩
    refine yesI ?_
    refine turn i H2 hi D2 k2 _ fun x H3 hb D3 k3 => ⟨xs.map V.int, k3 _ _ hD2 nd nl, ?_, xs ++ [x], by simp [hx], fun y hy => ?_, ?_, ?_, ?_⟩
    · rw [List.length_map, hx]
      exact small1000 (by omega)
    · rcases List.mem_append.mp hy with h | h
      · exact hB y h
      · rw [List.mem_singleton.mp h]; exact hb
    · rw [upd_same, List.map_append]
      rfl
    · obtain ⟨cs, m, k, h1, h2, h3⟩ := D3
      exact ⟨cs, m, k, by rw [upd_ne nd.symm]; exact h1, by rw [upd_ne nl.symm]; exact h2, h3⟩
    · intro b o e h1 h2
      rw [upd_ne (ne_of_none e hD)]
      exact k3 _ _ (k2 _ _ e h1 h2) h1 h2
  · rintro H2 ⟨xs, hx, hB, hD2, D2, k2⟩
    exact done xs H2 hx hB hD2 D2 k2
end SG

namespace SG
open PySem PySem.Spec PyProof.Rows L2

/-- a comprehension over enumerate of a tuple -/
theorem lc_enumT {K : PySem.W.Frag} {a D : Addr} {xs : List V} {g : TG} {tt : TT} {te : TE} {vs : List Nat} {σ : L2.St} {H1 : Hp} {Qd : Hp → Prop} (Pv : Nat → Hp → Prop) (h0 : Pv 0 (upd H1 D (.lst []))) (hl : ∀ i H, i ≤ xs.length → Pv i H → SqT K H a xs)
    (hs : ∀ (i : Nat) (x : V) (H : Hp) (T : Addr), xs[i]? = some x → Pv i H → H T = none → g (.ref T) (wipe σ vs) (upd H T (.tup [.int (i : Nat), x])) fun σ2 H2 => wipe σ2 vs = wipe σ vs ∧ tt σ2 H2 fun b H3 =>
      if b = true then te σ2 H3 fun y H4 => ∃ acc, H4 D = some (.lst acc) ∧ acc.length < sizeLine ∧ Pv (i + 1) (upd H4 D (.lst (acc ++ [y]))) else Pv (i + 1) H3) (hd : ∀ H, Pv xs.length H → Qd H) :
    ∃ W : Nat → Nat → Hp → Prop, (∃ m, W 0 m (upd H1 D (.lst []))) ∧ ∀ i m H, W i m H →
      ((IteT K a).stop i H ∧ Qd H) ∨ ((IteT K a).go i H ∧ ∃ Nx : Hp → Prop, (∀ H2, Nx H2 → ∃ m2, m2 < m ∧ W (i + 1) m2 H2) ∧ ∀ x H2, (IteT K a).yld i H x H2 → g x (wipe σ vs) H2 fun σ2 H3 => wipe σ2 vs = wipe σ vs ∧ tt σ2 H3 fun b H4 =>
        if b = true then te σ2 H4 fun y H5 => ∃ acc, H5 D = some (.lst acc) ∧ acc.length < sizeLine ∧ Nx (upd H5 D (.lst (acc ++ [y]))) else Nx H4) := by
  refine ⟨fun i m H => m = xs.length - i ∧ i ≤ xs.length ∧ Pv i H, ⟨xs.length, by simp, Nat.zero_le _, h0⟩, ?_⟩
  rintro i m H ⟨rfl, hi, p⟩
  have q := hl i H hi p
  rcases Nat.lt_or_eq_of_le hi with hlt | rfl
  · refine .inr ⟨⟨xs, xs[i], q, by simp [hlt]⟩, Pv (i + 1), fun H2 p2 => ⟨xs.length - (i + 1), by omega, rfl, hlt, p2⟩, ?_⟩
    rintro x H2 ⟨T, x, rfl, hT, rfl, hx⟩
    exact hs i x H T (hx xs q) p hT
  · exact .inl ⟨⟨xs, q, Nat.le_refl _⟩, hd H p⟩
theorem wipe2 (σ : L2.St) (s1 s2 : Nat) (x y : Option V) : wipe (((wipe σ [s1, s2]).set s1 x).set s2 y) [s1, s2] = wipe σ [s1, s2] := by
  show List.set (List.set (List.set (List.set (List.set (List.set σ s2 none) s1 none) s1 x) s2 y) s2 none) s1 none = List.set (List.set σ s2 none) s1 none
  by_cases e : s1 = s2
  · subst e
    simp [List.set_set]
  · have z1 : List.set (List.set (List.set (List.set σ s2 none) s1 none) s1 x) s2 y = List.set (List.set (List.set σ s2 none) s1 x) s2 y := by rw [List.set_set]
    rw [z1]
    refine List.ext_getElem? fun i => ?_
    simp only [List.getElem?_set, List.length_set]
    split <;> split <;> rfl
  -- rw [List.set_set, List.set_comm x none e, List.set_set, List.set_comm none none (Ne.symm e), List.set_set]
theorem same_upd_of {H H2 : Hp} {p : Addr} {o : HO} (s : Same H H2) (h : H p = none) : Same H (upd H2 p o) := fun b x e => by
  rw [upd_ne (ne_of_none e h)]
  exact s _ _ e
/-- .. whose items are told ahead, and that makes new objects alone -/
theorem lc_enumS {K : PySem.W.Frag} {a D : Addr} {xs ys : List V} {te : TE} {s1 s2 : Nat} {σ : L2.St} {H1 : Hp} {Qd : Hp → Prop} (hn : xs.length ≤ 1000) (hD : H1 D = none) (hS : SqT K H1 a xs) (hy : ys.length = xs.length)
    (turn : ∀ (i : Nat) (x y : V) (H2 : Hp), xs[i]? = some x → ys[i]? = some y → Same H1 H2 → ∀ R : VK, (∀ H3, Same H2 H3 → R y H3) → te (((wipe σ [s1, s2]).set s1 (some (.int (i : Nat)))).set s2 (some x)) H2 R)
    (done : ∀ H2, Same H1 H2 → H2 D = some (.lst ys) → Qd H2) :
    ∃ W : Nat → Nat → Hp → Prop, (∃ m, W 0 m (upd H1 D (.lst []))) ∧ ∀ i m H, W i m H →
      ((IteT K a).stop i H ∧ Qd H) ∨ ((IteT K a).go i H ∧ ∃ Nx : Hp → Prop, (∀ H2, Nx H2 → ∃ m2, m2 < m ∧ W (i + 1) m2 H2) ∧ ∀ x H2, (IteT K a).yld i H x H2 → gTup K 2 (gCons (gName s1) (gCons (gName s2) gNil)) x (wipe σ [s1, s2]) H2 fun σ2 H3 => wipe σ2 [s1, s2] = wipe σ [s1, s2] ∧ tYes σ2 H3 fun b H4 =>
        if b = true then te σ2 H4 fun y H5 => ∃ acc, H5 D = some (.lst acc) ∧ acc.length < sizeLine ∧ Nx (upd H5 D (.lst (acc ++ [y]))) else Nx H4) := by
  refine lc_enumT (xs := xs) (fun i H2 => Same H1 H2 ∧ H2 D = some (.lst (ys.take i))) ⟨same_new hD, by rw [upd_same, List.take_zero]⟩ (fun i H2 _ p => sameT p.1 hS) ?_ ?_
  · rintro i x H2 T hx ⟨s, h2⟩ hT
    have hi : i < ys.length := by rw [hy]; exact (List.getElem?_eq_some_iff.mp hx).1
    have hyi : ys[i]? = some ys[i] := List.getElem?_eq_getElem hi
    refine ⟨T, _, rfl, .inl (.inl upd_same), rfl, _, _, rfl, _, _, rfl, rfl, wipe2 _ _ _ _ _, ?_⟩
    refine yesI ?_
    have s1 : Same H1 (upd H2 T (.tup [.int (i : Nat), x])) := s.trans (same_new hT)
    have hD2 : (upd H2 T (.tup [.int (i : Nat), x])) D = some (.lst (ys.take i)) := same_new hT _ _ h2
    refine turn i x _ _ hx hyi s1 _ fun H3 s3 => ⟨ys.take i, s3 _ _ hD2, ?_, same_upd_of (s1.trans s3) hD, ?_⟩
    · rw [List.length_take]
      exact small1000 (by omega)
    · rw [upd_same, List.take_add_one, hyi]
      rfl
  · rintro H2 ⟨s, h2⟩
    refine done H2 s ?_
    rw [h2, ← hy, List.take_length]
end SG

namespace SG
open PySem PySem.Spec PyProof.Rows L2
/-- a comprehension over a tuple, whose items are told ahead, and that makes new objects alone -/
theorem lc_tupS {K : PySem.W.Frag} {a D : Addr} {xs ys : List V} {te : TE} {s : Nat} {σ : L2.St} {H1 : Hp} {Qd : Hp → Prop} (hn : xs.length ≤ 1000) (hD : H1 D = none) (hS : SqT K H1 a xs) (hy : ys.length = xs.length)
    (turn : ∀ (i : Nat) (x y : V) (H2 : Hp), xs[i]? = some x → ys[i]? = some y → Same H1 H2 → ∀ R : VK, (∀ H3, Same H2 H3 → R y H3) → te ((wipe σ [s]).set s (some x)) H2 R)
    (done : ∀ H2, Same H1 H2 → H2 D = some (.lst ys) → Qd H2) :
    ∃ W : Nat → Nat → Hp → Prop, (∃ m, W 0 m (upd H1 D (.lst []))) ∧ ∀ i m H, W i m H →
      ((Itt K a).stop i H ∧ Qd H) ∨ ((Itt K a).go i H ∧ ∃ Nx : Hp → Prop, (∀ H2, Nx H2 → ∃ m2, m2 < m ∧ W (i + 1) m2 H2) ∧ ∀ x H2, (Itt K a).yld i H x H2 → gName s x (wipe σ [s]) H2 fun σ2 H3 => wipe σ2 [s] = wipe σ [s] ∧ tYes σ2 H3 fun b H4 =>
        if b = true then te σ2 H4 fun y H5 => ∃ acc, H5 D = some (.lst acc) ∧ acc.length < sizeLine ∧ Nx (upd H5 D (.lst (acc ++ [y]))) else Nx H4) := by
  refine lc_tup (xs := xs) (fun i H2 => Same H1 H2 ∧ H2 D = some (.lst (ys.take i))) ⟨same_new hD, by rw [upd_same, List.take_zero]⟩ (fun i H2 _ p => sameT p.1 hS) ?_ ?_
  · rintro i x H2 hx ⟨sm, h2⟩
    have hi : i < ys.length := by rw [hy]; exact (List.getElem?_eq_some_iff.mp hx).1
    have hyi : ys[i]? = some ys[i] := List.getElem?_eq_getElem hi
    refine ⟨wipe1 _ _ _, ?_⟩
    refine yesI ?_
    refine turn i x _ _ hx hyi sm _ fun H3 s3 => ⟨ys.take i, s3 _ _ h2, ?_, same_upd_of (sm.trans s3) hD, ?_⟩
    · rw [List.length_take]
      exact small1000 (by omega)
    · rw [upd_same, List.take_add_one, hyi]
      rfl
  · rintro H2 ⟨sm, h2⟩
    refine done H2 sm ?_
    rw [h2, ← hy, List.take_length]
/-- the same over a list -/
theorem lc_listS {K : PySem.W.Frag} {a D : Addr} {xs ys : List V} {te : TE} {s : Nat} {σ : L2.St} {H1 : Hp} {Qd : Hp → Prop} (hn : xs.length ≤ 1000) (hD : H1 D = none) (hS : SqL K H1 a xs) (hy : ys.length = xs.length)
    (turn : ∀ (i : Nat) (x y : V) (H2 : Hp), xs[i]? = some x → ys[i]? = some y → Same H1 H2 → ∀ R : VK, (∀ H3, Same H2 H3 → R y H3) → te ((wipe σ [s]).set s (some x)) H2 R)
    (done : ∀ H2, Same H1 H2 → H2 D = some (.lst ys) → Qd H2) :
    ∃ W : Nat → Nat → Hp → Prop, (∃ m, W 0 m (upd H1 D (.lst []))) ∧ ∀ i m H, W i m H →
      ((Itl K a).stop i H ∧ Qd H) ∨ ((Itl K a).go i H ∧ ∃ Nx : Hp → Prop, (∀ H2, Nx H2 → ∃ m2, m2 < m ∧ W (i + 1) m2 H2) ∧ ∀ x H2, (Itl K a).yld i H x H2 → gName s x (wipe σ [s]) H2 fun σ2 H3 => wipe σ2 [s] = wipe σ [s] ∧ tYes σ2 H3 fun b H4 =>
        if b = true then te σ2 H4 fun y H5 => ∃ acc, H5 D = some (.lst acc) ∧ acc.length < sizeLine ∧ Nx (upd H5 D (.lst (acc ++ [y]))) else Nx H4) := by
  refine lc_list (xs := xs) (fun i H2 => Same H1 H2 ∧ H2 D = some (.lst (ys.take i))) ⟨same_new hD, by rw [upd_same, List.take_zero]⟩ (fun i H2 _ p => p.1.seq hS) ?_ ?_
  · rintro i x H2 hx ⟨sm, h2⟩
    have hi : i < ys.length := by rw [hy]; exact (List.getElem?_eq_some_iff.mp hx).1
    have hyi : ys[i]? = some ys[i] := List.getElem?_eq_getElem hi
    refine ⟨wipe1 _ _ _, ?_⟩
    refine yesI ?_
    refine turn i x _ _ hx hyi sm _ fun H3 s3 => ⟨ys.take i, s3 _ _ h2, ?_, same_upd_of (sm.trans s3) hD, ?_⟩
    · rw [List.length_take]
      exact small1000 (by omega)
    · rw [upd_same, List.take_add_one, hyi]
      rfl
  · rintro H2 ⟨sm, h2⟩
    refine done H2 sm ?_
    rw [h2, ← hy, List.take_length]
/-- the same over a list, its target a pair -/
theorem lc_listP {K : PySem.W.Frag} {a D : Addr} {xs ys : List V} {te : TE} {s1 s2 : Nat} {σ : L2.St} {H1 : Hp} {Qd : Hp → Prop} (hn : xs.length ≤ 1000) (hD : H1 D = none) (hS : SqL K H1 a xs) (hy : ys.length = xs.length)
    (turn : ∀ (i : Nat) (x y : V) (H2 : Hp), xs[i]? = some x → ys[i]? = some y → Same H1 H2 → ∃ p u v, x = .ref p ∧ SqT K H2 p [u, v] ∧ ∀ R : VK, (∀ H3, Same H2 H3 → R y H3) → te (((wipe σ [s1, s2]).set s1 (some u)).set s2 (some v)) H2 R)
    (done : ∀ H2, Same H1 H2 → H2 D = some (.lst ys) → Qd H2) :
    ∃ W : Nat → Nat → Hp → Prop, (∃ m, W 0 m (upd H1 D (.lst []))) ∧ ∀ i m H, W i m H →
      ((Itl K a).stop i H ∧ Qd H) ∨ ((Itl K a).go i H ∧ ∃ Nx : Hp → Prop, (∀ H2, Nx H2 → ∃ m2, m2 < m ∧ W (i + 1) m2 H2) ∧ ∀ x H2, (Itl K a).yld i H x H2 → gTup K 2 (gCons (gName s1) (gCons (gName s2) gNil)) x (wipe σ [s1, s2]) H2 fun σ2 H3 => wipe σ2 [s1, s2] = wipe σ [s1, s2] ∧ tYes σ2 H3 fun b H4 =>
        if b = true then te σ2 H4 fun y H5 => ∃ acc, H5 D = some (.lst acc) ∧ acc.length < sizeLine ∧ Nx (upd H5 D (.lst (acc ++ [y]))) else Nx H4) := by
  refine lc_list (xs := xs) (fun i H2 => Same H1 H2 ∧ H2 D = some (.lst (ys.take i))) ⟨same_new hD, by rw [upd_same, List.take_zero]⟩ (fun i H2 _ p => p.1.seq hS) ?_ ?_
  · rintro i x H2 hx ⟨sm, h2⟩
    have hi : i < ys.length := by rw [hy]; exact (List.getElem?_eq_some_iff.mp hx).1
    have hyi : ys[i]? = some ys[i] := List.getElem?_eq_getElem hi
    obtain ⟨p, u, v, rfl, hp, tn⟩ := turn i x _ _ hx hyi sm
    refine ⟨p, _, rfl, hp, rfl, _, _, rfl, _, _, rfl, rfl, wipe2 _ _ _ _ _, ?_⟩
    refine yesI ?_
    refine tn _ fun H3 s3 => ⟨ys.take i, s3 _ _ h2, ?_, same_upd_of (sm.trans s3) hD, ?_⟩
    · rw [List.length_take]
      exact small1000 (by omega)
    · rw [upd_same, List.take_add_one, hyi]
      rfl
  · rintro H2 ⟨sm, h2⟩
    refine done H2 sm ?_
    rw [h2, ← hy, List.take_length]
end SG

/-! The rules that speak of the written part, with it as a letter: so they serve in a comprehension too. -/
namespace SG
open PySem PySem.Spec PyProof.Rows L2
section
variable {X : Cx} {K : PySem.W.Frag}
def rLenS (K : PySem.W.Frag) : List V → Hp → VK → Prop := fun xs H Q => ∃ p ys, xs = [.ref p] ∧ (SqL K H p ys ∨ SqT K H p ys) ∧ Q (.int ys.length) H
def rListOf (K : PySem.W.Frag) : List V → Hp → VK → Prop := fun xs H Q => ∃ p ys, xs = [.ref p] ∧ (SqL K H p ys ∨ SqT K H p ys) ∧ ∀ l, H l = none → Q (.ref l) (upd H l (.lst ys))
def rTupOf (K : PySem.W.Frag) : List V → Hp → VK → Prop := fun xs H Q => ∃ p ys, xs = [.ref p] ∧ ((SqL K H p ys ∧ ∀ l, H l = none → Q (.ref l) (upd H l (.tup ys))) ∨ (SqT K H p ys ∧ Q (.ref p) H))
theorem k_len (e : X.K = K := by rfl) : CallR X (.builtin "len") (rLenS K) := e ▸ call_len_seq
theorem k_listOf (e : X.K = K := by rfl) : CallR X (.type "list") (rListOf K) := e ▸ call_list_of
theorem k_tupOf (e : X.K = K := by rfl) : CallR X (.type "tuple") (rTupOf K) := e ▸ call_tuple_of
theorem k_sum (hc : X.calm = true) (e : X.K = K := by rfl) : CallR X (.builtin "sum") (rSum K) := e ▸ cr_sum hc
theorem k_all (hc : X.calm = true) (e : X.K = K := by rfl) : CallR X (.builtin "all") (rAll K) := e ▸ cr_all hc
theorem k_any (hc : X.calm = true) (e : X.K = K := by rfl) : CallR X (.builtin "any") (rAny K) := e ▸ cr_any hc
theorem k_isi (e : X.K = K := by rfl) : CallR X (.builtin "isinstance") (rIsi K) := e ▸ call_isi
theorem k_repr {k : Nat} (hn : X.base.NoDigits) (hg : X.A.guards = some []) (hr : Room k X.A) (e : X.K = K := by rfl) : CallR X (.builtin "repr") (rRepr K) := e ▸ call_reprG hn hg hr
theorem k_ixL (e : X.K = K := by rfl) : IxR X (rIxL K) := e ▸ ix_list
theorem k_ixT (e : X.K = K := by rfl) : IxR X (rIxT K) := e ▸ ix_tup
theorem k_ix (e : X.K = K := by rfl) : IxR X (rIx K) := e ▸ ix_seq
theorem k_slL (e : X.K = K := by rfl) : SlR X (rSlL K) := e ▸ sl_list
theorem k_slT (e : X.K = K := by rfl) : SlR X (rSlA K) := e ▸ sl_tupA
theorem k_catT (e : X.K = K := by rfl) : OpR X (binaryOp .Add) (rCatA K) := e ▸ op_catA
theorem k_eqD (hu : X.A.units + 64 < cLine) (e : X.K = K := by rfl) : OpR X (compareOp .Eq) (rEqD K) := e ▸ op_eqD hu
theorem k_neD (hu : X.A.units + 64 < cLine) (e : X.K = K := by rfl) : OpR X (compareOp .NotEq) (rNeD K) := e ▸ op_neD hu
theorem k_rev {x : Expr} {k} {p1 p2 p3 pos : Pos} {te : TE} (he : PE X x te) (e : X.K = K := by rfl) : PE X (.Subscript x (.Slice none none (some (.UnaryOp .USub (.Constant (.int 1) k p1) p2)) p3) pos) (tRevL K te) := e ▸ pe_revL he
theorem k_tg {es : List Expr} {k : Nat} {t : TGs} {n : Nat} {pos : Pos} (hc : X.calm = true) (h : PGs X es t) (hn : (assignEach es X.env).length = n := by rfl) (hst : (assignEach es X.env).findIdx? (·.1) = none := by rfl) (e : X.K = K := by rfl) : PG X (.Tuple es k pos) (gTup K n t) := e ▸ pg_tup hc h hn hst
theorem k_enumT {x : Expr} {ta : TA} {p pos tpos : Pos} {elts : List Expr} {kk : Nat} (hg : Gl X "enumerate") (hm : X.mg "enumerate" = none) (ha : PA X [x] ta) (hs : starEach [x] X.env = [(false, eval x X.env)] := by rfl) (e : X.K = K := by rfl) :
    PI X (.Tuple elts kk tpos) (.Call (.Name "enumerate" p) [x] [] pos) (iEnumT K ta) := e ▸ pi_enumT hg hm ha hs
theorem k_enum {x : Expr} {ta : TA} {p pos tpos : Pos} {elts : List Expr} {kk : Nat} (hg : Gl X "enumerate") (hm : X.mg "enumerate" = none) (ha : PA X [x] ta) (hs : starEach [x] X.env = [(false, eval x X.env)] := by rfl) (e : X.K = K := by rfl) :
    PI X (.Tuple elts kk tpos) (.Call (.Name "enumerate" p) [x] [] pos) (iEnum K ta) := e ▸ pi_enum hg hm ha hs
end
end SG

/-! Data at any depth, and the empty dict: its kind, lengths, items. -/
namespace SG
open PySem PySem.Spec PyProof.Rows L2
/-- data, or the empty dict -/
def Dq (K : PySem.W.Frag) (H : Hp) (x : V) (d : PyData) : Prop := Dp K H x d ∨ (d = .dict [] ∧ ∃ a, x = .ref a ∧ H a = some (.dK []))
def kindOf : PyData → String
  | .none => "NoneType"
  | .bool _ => "bool"
  | .int _ => "int"
  | .str _ => "str"
  | .list _ => "list"
  | .tuple _ => "tuple"
  | .dict _ => "dict"
section
variable {K : PySem.W.Frag} {H H2 : Hp} {x : V} {d : PyData}
theorem dp_ty (h : Dp K H x d) : TyX K H x (.type (kindOf d)) := by
  cases h with
  | non => exact .base .non
  | bl b => exact .base (.bl b)
  | int i => exact .base (.int i)
  | str s => exact .base (.str s)
  | lst s _ =>
    rcases s with (s | ⟨o, s⟩) | ⟨o, vs, n, s, c, _⟩
    · exact .base (.lst s)
    · exact .base (.frz s)
    · exact .kList s c
  | tup s _ =>
    rcases s with (s | ⟨o, s⟩) | ⟨o, vs, n, s, c, _⟩
    · exact .base (.tup s)
    · exact .fTuple s
    · exact .kTuple s c
theorem dq_ty (h : Dq K H x d) : TyX K H x (.type (kindOf d)) := by
  rcases h with h | ⟨rfl, a, rfl, h⟩
  · exact dp_ty h
  · exact .base (.dK h)
mutual
theorem dp_same (s : Same H H2) : ∀ {x : V} {d : PyData}, Dp K H x d → Dp K H2 x d
  | _, _, .non => .non
  | _, _, .bl b => .bl b
  | _, _, .int i => .int i
  | _, _, .str t => .str t
  | _, _, .lst q a => .lst (s.seq q) (dpA_same s a)
  | _, _, .tup q a => .tup (sameT s q) (dpA_same s a)
theorem dpA_same (s : Same H H2) : ∀ {xs : List V} {ds : List PyData}, DpAll K H xs ds → DpAll K H2 xs ds
  | _, _, .nil => .nil
  | _, _, .cons a b => .cons (dp_same s a) (dpA_same s b)
end
theorem dq_same (s : Same H H2) (h : Dq K H x d) : Dq K H2 x d := by
  rcases h with h | ⟨e, a, e2, h⟩
  · exact .inl (dp_same s h)
  · exact .inr ⟨e, a, e2, s _ _ h⟩
theorem dpA_len : ∀ {xs : List V} {ds : List PyData}, DpAll K H xs ds → xs.length = ds.length
  | _, _, .nil => rfl
  | _, _, .cons _ b => congrArg (· + 1) (dpA_len b)
theorem dpA_get : ∀ {xs : List V} {ds : List PyData} {i : Nat} {x : V}, DpAll K H xs ds → xs[i]? = some x → ∃ d, ds[i]? = some d ∧ Dp K H x d
  | _, _, _, _, .nil, e => by simp at e
  | _, _, 0, _, .cons a b, e => by
    simp at e
    subst e
    exact ⟨_, rfl, a⟩
  | _, _, i + 1, x, .cons a b, e => by
    obtain ⟨d, h1, h2⟩ := dpA_get (i := i) (x := x) b (by simpa using e)
    exact ⟨d, by simpa using h1, h2⟩
theorem dpA_app : ∀ {xs ys : List V} {ds es : List PyData}, DpAll K H xs ds → DpAll K H ys es → DpAll K H (xs ++ ys) (ds ++ es)
  | _, _, _, _, .nil, h => h
  | _, _, _, _, .cons a b, h => .cons a (dpA_app b h)
/-- what is no tuple has no tuple's kind -/
theorem dq_tuple {ds : List PyData} (h : Dq K H x (.tuple ds)) : ∃ a xs, x = .ref a ∧ SqT K H a xs ∧ DpAll K H xs ds := by
  rcases h with h | ⟨e, _⟩
  · cases h with
    | tup q a => exact ⟨_, _, rfl, q, a⟩
  · cases e
def isTup : PyData → Bool
  | .tuple _ => true
  | _ => false
def isInt : PyData → Bool
  | .int _ => true
  | _ => false
theorem isi_tuple (h : Dq K H x d) : PySem.W.kitOne K (.type (kindOf d)) (.type "tuple") = some (isTup d) := by
  cases d with
  | none => exact kit_ty (show kitB "NoneType" "tuple" = some false by decide +kernel)
  | bool _ => exact kit_ty (show kitB "bool" "tuple" = some false by decide +kernel)
  | int _ => exact kit_ty (show kitB "int" "tuple" = some false by decide +kernel)
  | str _ => exact kit_ty (show kitB "str" "tuple" = some false by decide +kernel)
  | list _ => exact kit_ty (show kitB "list" "tuple" = some false by decide +kernel)
  | tuple _ => exact kit_ty (show kitB "tuple" "tuple" = some true by decide +kernel)
  | dict _ => exact kit_ty (show kitB "dict" "tuple" = some false by decide +kernel)
def isIntLike : PyData → Bool
  | .int _ => true
  | .bool _ => true
  | _ => false
def isBool : PyData → Bool
  | .bool _ => true
  | _ => false
theorem isi_int (h : Dq K H x d) : PySem.W.kitOne K (.type (kindOf d)) (.type "int") = some (isIntLike d) := by
  cases d with
  | none => exact kit_ty (show kitB "NoneType" "int" = some false by decide +kernel)
  | bool _ => exact kit_ty (show kitB "bool" "int" = some true by decide +kernel)
  | int _ => exact kit_ty (show kitB "int" "int" = some true by decide +kernel)
  | str _ => exact kit_ty (show kitB "str" "int" = some false by decide +kernel)
  | list _ => exact kit_ty (show kitB "list" "int" = some false by decide +kernel)
  | tuple _ => exact kit_ty (show kitB "tuple" "int" = some false by decide +kernel)
  | dict _ => exact kit_ty (show kitB "dict" "int" = some false by decide +kernel)
theorem isi_bool (h : Dq K H x d) : PySem.W.kitOne K (.type (kindOf d)) (.type "bool") = some (isBool d) := by
  cases d with
  | none => exact kit_ty (show kitB "NoneType" "bool" = some false by decide +kernel)
  | bool _ => exact kit_ty (show kitB "bool" "bool" = some true by decide +kernel)
  | int _ => exact kit_ty (show kitB "int" "bool" = some false by decide +kernel)
  | str _ => exact kit_ty (show kitB "str" "bool" = some false by decide +kernel)
  | list _ => exact kit_ty (show kitB "list" "bool" = some false by decide +kernel)
  | tuple _ => exact kit_ty (show kitB "tuple" "bool" = some false by decide +kernel)
  | dict _ => exact kit_ty (show kitB "dict" "bool" = some false by decide +kernel)
end
/-! ### two tuples put together, a slice of a tuple: whatever object it is -/
theorem cat3 {K : PySem.W.Frag} {C : V → Hp → Prop} {H : Hp} {a b : Addr} {xs ys : List V} (hA : SqT K H a xs) (hB : SqT K H b ys) (h : ∀ (x : Addr) (H3 : Hp), Same H H3 → SqT K H3 x (xs ++ ys) → C (.ref x) H3) :
    (xs = [] → C (.ref b) H) ∧ (xs ≠ [] → ys = [] → C (.ref a) H) ∧ (xs ≠ [] → ys ≠ [] → ∀ p, H p = none → C (.ref p) (upd H p (.tup (xs ++ ys)))) := by
  refine ⟨fun e => ?_, fun _ e => ?_, fun _ _ p np => h p _ (same_new np) (.inl (.inl upd_same))⟩
  · subst e
    exact h b H (Same.refl H) hB
  · subst e
    refine h a H (Same.refl H) ?_
    rw [List.append_nil]
    exact hA
def rCatU (K : PySem.W.Frag) : R2 := fun x y H Q => ∃ a b xs ys, x = .ref a ∧ y = .ref b ∧ SqT K H a xs ∧ SqT K H b ys ∧ xs.length + ys.length ≤ sizeLine ∧ ∀ (z : Addr) (H3 : Hp), Same H H3 → SqT K H3 z (xs ++ ys) → Q (.ref z) H3
theorem k_catU {X : Cx} {K : PySem.W.Frag} (e : X.K = K := by rfl) : OpR X (binaryOp .Add) (rCatU K) := by
  subst e
  intro pins s σ H x y v u Q I rx ry h
  obtain ⟨a, b, xs, ys, rfl, rfl, hA, hB, hl, q⟩ := h
  exact op_catA pins s σ H _ _ v u Q I rx ry ⟨a, b, xs, ys, rfl, rfl, hA, hB, hl, cat3 hA hB q⟩
def rSlU (K : PySem.W.Frag) : V → Option Int → Option Int → Hp → VK → Prop := fun x lo hi H Q => ∃ a xs, x = .ref a ∧ SqT K H a xs ∧ ∀ (z : Addr) (H3 : Hp), Same H H3 → SqT K H3 z (cutV xs lo hi) → Q (.ref z) H3
theorem k_slU {X : Cx} {K : PySem.W.Frag} (e : X.K = K := by rfl) : SlR X (rSlU K) := by
  subst e
  intro pins s σ H x v vl vu lo hi sl Q I rx hs pl pu h
  obtain ⟨a, xs, rfl, hA, q⟩ := h
  refine sl_tupA pins s σ H _ v vl vu lo hi sl Q I rx hs pl pu ⟨a, xs, rfl, hA, fun z => q a H (Same.refl H) ?_, fun _ p np => q p _ (same_new np) (.inl (.inl upd_same))⟩
  unfold cutV
  rw [z.1, z.2, Nat.sub_zero, List.drop_zero, List.take_length]
  exact hA
def isRuleD : PyData → Bool
  | .tuple [.tuple xs, .tuple ys] => xs.length == ys.length && (xs ++ ys).all isInt
  | _ => false
end SG

/-! Data that can be told and compared. -/
namespace SG
open PySem PySem.Spec PyProof.Rows L2
structure OkD (d : PyData) : Prop where
  lay : d.canLay0 = true
  dep : d.depth ≤ 50
  tell : tellable d = true
  short : d.leavesShort 4302 = true
  bulk : d.bulk ≤ 3000
structure OkA (ds : List PyData) : Prop where
  lay : PyData.canLayAll0 ds = true
  dep : PyData.depthAll ds ≤ 49
  tell : tellableAll ds = true
  short : PyData.leavesShortAll 4302 ds = true
theorem OkD.shown {d : PyData} (h : OkD d) : d.shown.length ≤ sizeLine := by
  have z := PyData.shown_le_bulk 4302 (by decide) d h.short
  have z2 : (4302 + 2) * d.bulk ≤ 4304 * 3000 := Nat.mul_le_mul (Nat.le_refl _) h.bulk
  rw [sizeLine_eq]
  omega
theorem OkA.tuple {ds : List PyData} (h : OkA ds) (b : PyData.bulkAll ds ≤ 3000) : OkD (.tuple ds) :=
  ⟨by simpa only [PyData.canLay0] using h.lay, by simp only [PyData.depth]; have := h.dep; omega, by simpa only [tellable] using h.tell, by simpa only [PyData.leavesShort] using h.short, by simpa only [PyData.bulk] using b⟩
theorem OkA.list {ds : List PyData} (h : OkA ds) (b : PyData.bulkAll ds ≤ 3000) : OkD (.list ds) :=
  ⟨by simpa only [PyData.canLay0] using h.lay, by simp only [PyData.depth]; have := h.dep; omega, by simpa only [tellable] using h.tell, by simpa only [PyData.leavesShort] using h.short, by simpa only [PyData.bulk] using b⟩
theorem OkA.nil : OkA [] := ⟨by simp [PyData.canLayAll0], by simp [PyData.depthAll], by simp [tellableAll], by simp [PyData.leavesShortAll]⟩
theorem OkA.cons {d : PyData} {ds : List PyData} (h : OkD d) (hd : d.depth ≤ 49) (t : OkA ds) : OkA (d :: ds) :=
  ⟨by simp only [PyData.canLayAll0, h.lay, t.lay, Bool.and_self], by simp only [PyData.depthAll]; have := t.dep; omega, by simp only [tellableAll, h.tell, t.tell, Bool.and_self], by simp only [PyData.leavesShortAll, h.short, t.short, Bool.and_self]⟩
theorem OkD.int {i : Int} (h : i.natAbs < 10 ^ 4300) : OkD (.int i) := by
  refine ⟨by simp only [PyData.canLay0], by simp only [PyData.depth]; omega, ?_, ?_, by simp only [PyData.bulk]; omega⟩
  · simp only [tellable]
    exact decide_eq_true h
  · have e := int_text_length_le10 (k := 4300) (by decide) h
    simp only [PyData.leavesShort]
    refine decide_eq_true ?_
    show (Str.ofString (toString i)).length ≤ 4302
    rw [PySem.ofString_length]
    omega
theorem okA_ints : ∀ {ns : List Int}, (∀ n ∈ ns, n.natAbs < 10 ^ 4300) → OkA (dI ns)
  | [], _ => .nil
  | n :: ns, h => .cons (.int (h n List.mem_cons_self)) (by simp only [PyData.depth]; omega) (okA_ints fun m hm => h m (List.mem_cons_of_mem _ hm))
theorem bulk_ints : ∀ ns : List Int, PyData.bulkAll (dI ns) = ns.length
  | [] => by simp [dI, PyData.bulkAll]
  | n :: ns => by
    have ih := bulk_ints ns
    show PyData.bulkAll (PyData.int n :: dI ns) = ns.length + 1
    simp only [PyData.bulkAll, PyData.bulk, ih]
    omega
end SG
namespace SG
open PySem PySem.Spec PyProof.Rows L2
theorem canLay_mem : ∀ {ds : List PyData} {d : PyData}, PyData.canLayAll0 ds = true → d ∈ ds → d.canLay0 = true
  | x :: xs, d, h, m => by
    have h2 : x.canLay0 = true ∧ PyData.canLayAll0 xs = true := by simpa only [PyData.canLayAll0, Bool.and_eq_true] using h
    rcases List.mem_cons.mp m with e | m
    · rw [e]; exact h2.1
    · exact canLay_mem h2.2 m
theorem canLay_sub : ∀ {es ds : List PyData}, PyData.canLayAll0 ds = true → (∀ e ∈ es, e ∈ ds) → PyData.canLayAll0 es = true
  | [], _, _, _ => by simp only [PyData.canLayAll0]
  | e :: es, ds, h, s => by
    simp only [PyData.canLayAll0, canLay_mem h (s e List.mem_cons_self), canLay_sub (es := es) h fun x m => s x (List.mem_cons_of_mem _ m), Bool.and_self]
theorem depth_mem : ∀ {ds : List PyData} {d : PyData}, d ∈ ds → d.depth ≤ PyData.depthAll ds
  | x :: xs, d, m => by
    simp only [PyData.depthAll]
    rcases List.mem_cons.mp m with e | m
    · rw [e]; exact Nat.le_max_left _ _
    · exact Nat.le_trans (depth_mem m) (Nat.le_max_right _ _)
theorem depth_sub : ∀ {es ds : List PyData}, (∀ e ∈ es, e ∈ ds) → PyData.depthAll es ≤ PyData.depthAll ds
  | [], _, _ => by simp only [PyData.depthAll]; omega
  | e :: es, ds, s => by
    simp only [PyData.depthAll]
    exact Nat.max_le.mpr ⟨depth_mem (s e List.mem_cons_self), depth_sub fun x m => s x (List.mem_cons_of_mem _ m)⟩
theorem shaped_sub {es ds : List PyData} (h1 : PyData.canLayAll0 ds = true) (h2 : PyData.depthAll ds ≤ 60) (s : ∀ e ∈ es, e ∈ ds) : SeqAt.shaped (.list es) = true := by
  have a := canLay_sub h1 s
  have b := depth_sub s
  simp only [SeqAt.shaped, PyData.canLay0, PyData.depth, a, Bool.true_and]
  exact decide_eq_true (by omega)
theorem eqv_nil : ∀ ds : List PyData, PyData.eqv (.list ds) (.list []) = ds.isEmpty
  | [] => by simp [PyData.eqv, PyData.eqvAll]
  | d :: ds => by simp [PyData.eqv, PyData.eqvAll]
/-- a comprehension over a tuple of data that keeps those that p takes -/
theorem lc_tupF {K : PySem.W.Frag} {a D : Addr} {xs : List V} {ds : List PyData} {tt : TT} {s : Nat} {σ : L2.St} {H1 : Hp} {Qd : Hp → Prop} (p : PyData → Bool) (hn : xs.length ≤ 1000) (hD : H1 D = none) (hS : SqT K H1 a xs) (hX : DpAll K H1 xs ds) (hs : s < σ.length)
    (turn : ∀ (x : V) (d : PyData) (H2 : Hp), d ∈ ds → Dp K H2 x d → ∀ R : Bool → Hp → Prop, R (p d) H2 → tt ((wipe σ [s]).set s (some x)) H2 R)
    (done : ∀ (ys : List V) (H2 : Hp), Same H1 H2 → H2 D = some (.lst ys) → DpAll K H1 ys (ds.filter p) → Qd H2) :
    ∃ W : Nat → Nat → Hp → Prop, (∃ m, W 0 m (upd H1 D (.lst []))) ∧ ∀ i m H, W i m H →
      ((Itt K a).stop i H ∧ Qd H) ∨ ((Itt K a).go i H ∧ ∃ Nx : Hp → Prop, (∀ H2, Nx H2 → ∃ m2, m2 < m ∧ W (i + 1) m2 H2) ∧ ∀ x H2, (Itt K a).yld i H x H2 → gName s x (wipe σ [s]) H2 fun σ2 H3 => wipe σ2 [s] = wipe σ [s] ∧ tt σ2 H3 fun b H4 =>
        if b = true then tVar s σ2 H4 fun y H5 => ∃ acc, H5 D = some (.lst acc) ∧ acc.length < sizeLine ∧ Nx (upd H5 D (.lst (acc ++ [y]))) else Nx H4) := by
  refine lc_tup (xs := xs) (fun i H2 => Same H1 H2 ∧ ∃ ys, H2 D = some (.lst ys) ∧ DpAll K H1 ys ((ds.take i).filter p) ∧ ys.length ≤ i) ⟨same_new hD, [], upd_same, by simpa using DpAll.nil, Nat.le_refl _⟩ (fun i H2 _ q => sameT q.1 hS) ?_ ?_
  · rintro i x H2 hx ⟨sm, ys, h2, hY, hl⟩
    obtain ⟨d, h1, h3⟩ := dpA_get hX hx
    have hi : i < xs.length := (List.getElem?_eq_some_iff.mp hx).1
    have e1 : (ds.take (i + 1)).filter p = (ds.take i).filter p ++ (if p d = true then [d] else []) := by
      rw [List.take_add_one, h1]
      show ((ds.take i) ++ [d]).filter p = _
      rw [List.filter_append]
      congr 1
      by_cases e : p d = true <;> simp [e]
    refine ⟨wipe1 _ _ _, ?_⟩
    refine turn x d H2 (List.mem_of_getElem? h1) (dp_same sm h3) _ ?_
    by_cases e : p d = true
    · refine ifT e ⟨x, ?_, ys, h2, small1000 (by omega), same_upd_of sm hD, ys ++ [x], upd_same, ?_, by rw [List.length_append]; simpa using hl⟩
      · rw [List.getElem?_set_self (by rw [wipe_length]; exact hs)]
      · rw [e1, if_pos e]
        exact dpA_app hY (.cons h3 .nil)
    · refine ifF (by simpa using e) ⟨sm, ys, h2, ?_, by omega⟩
      rw [e1, if_neg e, List.append_nil]
      exact hY
  · rintro H2 ⟨sm, ys, h2, hY, hl⟩
    refine done ys H2 sm h2 ?_
    rw [dpA_len hX, List.take_length] at hY
    exact hY
end SG

/-! Calls by keywords alone. -/
namespace SG
open PySem PySem.Spec PyProof.Rows L2
def kwOne {α : Type} : List α → List α → List α
  | [], [a] => [a]
  | _, _ => []
/-- two keywords, in the other order -/
def kwTurn {α : Type} : List α → List α → List α
  | [], [b, a] => [a, b]
  | _, _ => []
theorem kwOne_rel {vs : List V} {us : List Value} {zs : List V} {ws : List Value} (a : Vals vs us) (b : Vals zs ws) : Vals (kwOne vs zs) (kwOne us ws) := by
  cases a with
  | nil =>
    cases b with
    | nil => exact .nil
    | cons r t =>
      cases t with
      | nil => exact .cons r .nil
      | cons _ _ => exact .nil
  | cons _ _ => exact .nil
theorem kwTurn_rel {vs : List V} {us : List Value} {zs : List V} {ws : List Value} (a : Vals vs us) (b : Vals zs ws) : Vals (kwTurn vs zs) (kwTurn us ws) := by
  cases a with
  | nil =>
    cases b with
    | nil => exact .nil
    | cons r t =>
      cases t with
      | nil => exact .nil
      | cons r2 t2 =>
        cases t2 with
        | nil => exact .cons r2 (.cons r .nil)
        | cons _ _ => exact .nil
  | cons _ _ => exact .nil
theorem kb_of {K : PySem.W.Frag} {x qn : Str} {st : Stmt} {f : Addr} {fd : FuncData} {ps ks : List Str} {g : List Value → List Value → List Value} {gV : List V → List V → List V} (F : Fun K x qn st f fd)
    (h : ∀ (kV doc pm : Value) (an : Option Addr) (cdv ct : Value) (us ws : List Value), (g us ws).length = ps.length → bindArgs (PySem.W.fnOf x qn (defArgs st) (defBody st) (defScope st) .none kV doc pm an cdv ct) ⟨us, ks.zip ws⟩ = pure (ps.zip (g us ws)))
    (rel : ∀ {vs : List V} {us : List Value} {zs : List V} {ws : List Value}, Vals vs us → Vals zs ws → Vals (gV vs zs) (g us ws)) : KBinds K fd ps ks g gV := by
  obtain ⟨oc, od, kV, doc, pm, an, cdv, ct, osl, rfl, lk, hcd⟩ := F.ex
  exact ⟨fun s us ws _ hl => .of_eq (h kV doc pm an cdv ct us ws hl), rel⟩
end SG

/-! Data that stays while the deck is drawn from; small data. -/
namespace SG
open PySem PySem.Spec PyProof.Rows L2
section
variable {K : PySem.W.Frag} {d l : Addr} {c : Nat} {H H2 : Hp}
def St (K : PySem.W.Frag) (d l : Addr) (H : Hp) (x : V) (D : PyData) : Prop := ∀ H2, Kept d l H H2 → Dp K H2 x D
def StA (K : PySem.W.Frag) (d l : Addr) (H : Hp) (xs : List V) (ds : List PyData) : Prop := ∀ H2, Kept d l H H2 → DpAll K H2 xs ds
theorem St.at {x : V} {D : PyData} (h : St K d l H x D) : Dp K H x D := h H (Kept.refl _ _ _)
theorem St.mono {x : V} {D : PyData} (h : St K d l H x D) (k : Kept d l H H2) : St K d l H2 x D := fun H3 k3 => h H3 (k.trans k3)
theorem StA.mono {xs : List V} {ds : List PyData} (h : StA K d l H xs ds) (k : Kept d l H H2) : StA K d l H2 xs ds := fun H3 k3 => h H3 (k.trans k3)
theorem St.int (i : Int) : St K d l H (.int i) (.int i) := fun _ _ => .int i
theorem St.bl (b : Bool) : St K d l H (.bl b) (.bool b) := fun _ _ => .bl b
theorem St.str (t : Str) : St K d l H (.str t) (.str t) := fun _ _ => .str t
theorem St.non : St K d l H .non .none := fun _ _ => .non
theorem St.tup {a : Addr} {xs : List V} {ds : List PyData} (D : Deck H d l c) (h : SqT K H a xs) (t : StA K d l H xs ds) : St K d l H (.ref a) (.tuple ds) := fun H3 k => .tup (k.tup D h) (t H3 k)
theorem St.lst {a : Addr} {xs : List V} {ds : List PyData} (h : H a = some (.lst xs)) (n1 : a ≠ d) (n2 : a ≠ l) (t : StA K d l H xs ds) : St K d l H (.ref a) (.list ds) := fun H3 k => .lst (SqL.of (k _ _ h n1 n2)) (t H3 k)
theorem StA.nil : StA K d l H [] [] := fun _ _ => .nil
theorem StA.cons {x : V} {xs : List V} {D : PyData} {ds : List PyData} (a : St K d l H x D) (b : StA K d l H xs ds) : StA K d l H (x :: xs) (D :: ds) := fun H3 k => .cons (a H3 k) (b H3 k)
theorem StA.app {xs ys : List V} {ds es : List PyData} (a : StA K d l H xs ds) (b : StA K d l H ys es) : StA K d l H (xs ++ ys) (ds ++ es) := fun H3 k => dpA_app (a H3 k) (b H3 k)
theorem StA.ints (ns : List Int) : StA K d l H (ns.map V.int) (dI ns) := fun _ _ => dpInts ns
end
/-! ### small data -/
structure Sm (n b : Nat) (D : PyData) : Prop where
  lay : D.canLay0 = true
  dep : D.depth ≤ n
  tell : tellable D = true
  short : D.leavesShort 4302 = true
  bulk : D.bulk ≤ b
structure SmA (n b : Nat) (ds : List PyData) : Prop where
  lay : PyData.canLayAll0 ds = true
  dep : PyData.depthAll ds ≤ n
  tell : tellableAll ds = true
  short : PyData.leavesShortAll 4302 ds = true
  bulk : PyData.bulkAll ds ≤ b
theorem Sm.ok {n b : Nat} {D : PyData} (h : Sm n b D) (hn : n ≤ 50) (hb : b ≤ 3000) : OkD D := ⟨h.lay, Nat.le_trans h.dep hn, h.tell, h.short, Nat.le_trans h.bulk hb⟩
theorem Sm.mono {n b m e : Nat} {D : PyData} (h : Sm n b D) (hn : n ≤ m) (hb : b ≤ e) : Sm m e D := ⟨h.lay, Nat.le_trans h.dep hn, h.tell, h.short, Nat.le_trans h.bulk hb⟩
theorem SmA.mono {n b m e : Nat} {ds : List PyData} (h : SmA n b ds) (hn : n ≤ m) (hb : b ≤ e) : SmA m e ds := ⟨h.lay, Nat.le_trans h.dep hn, h.tell, h.short, Nat.le_trans h.bulk hb⟩
theorem SmA.tuple {n b : Nat} {ds : List PyData} (h : SmA n b ds) : Sm (n + 1) b (.tuple ds) :=
  ⟨by simpa only [PyData.canLay0] using h.lay, by simp only [PyData.depth]; have := h.dep; omega, by simpa only [tellable] using h.tell, by simpa only [PyData.leavesShort] using h.short, by simpa only [PyData.bulk] using h.bulk⟩
theorem SmA.list {n b : Nat} {ds : List PyData} (h : SmA n b ds) : Sm (n + 1) b (.list ds) :=
  ⟨by simpa only [PyData.canLay0] using h.lay, by simp only [PyData.depth]; have := h.dep; omega, by simpa only [tellable] using h.tell, by simpa only [PyData.leavesShort] using h.short, by simpa only [PyData.bulk] using h.bulk⟩
theorem SmA.nil (n : Nat) : SmA n 0 [] := ⟨by simp [PyData.canLayAll0], by simp [PyData.depthAll], by simp [tellableAll], by simp [PyData.leavesShortAll], by simp [PyData.bulkAll]⟩
theorem SmA.cons {n b e : Nat} {D : PyData} {ds : List PyData} (h : Sm n b D) (t : SmA n e ds) : SmA n (b + 1 + e) (D :: ds) :=
  ⟨by simp only [PyData.canLayAll0, h.lay, t.lay, Bool.and_self], by simp only [PyData.depthAll]; exact Nat.max_le.mpr ⟨h.dep, t.dep⟩, by simp only [tellableAll, h.tell, t.tell, Bool.and_self], by simp only [PyData.leavesShortAll, h.short, t.short, Bool.and_self],
    by simp only [PyData.bulkAll]; have := h.bulk; have := t.bulk; omega⟩
theorem SmA.app {n e : Nat} {es : List PyData} (t : SmA n e es) : ∀ {ds : List PyData} {b : Nat}, SmA n b ds → SmA n (b + e) (ds ++ es)
  | [], b, h => t.mono (Nat.le_refl _) (by omega)
  | D :: ds, b, h => by
    have l1 : D.canLay0 = true ∧ PyData.canLayAll0 ds = true := by simpa only [PyData.canLayAll0, Bool.and_eq_true] using h.lay
    have l2 : tellable D = true ∧ tellableAll ds = true := by simpa only [tellableAll, Bool.and_eq_true] using h.tell
    have l3 : D.leavesShort 4302 = true ∧ PyData.leavesShortAll 4302 ds = true := by simpa only [PyData.leavesShortAll, Bool.and_eq_true] using h.short
    have l4 : D.depth ≤ n ∧ PyData.depthAll ds ≤ n := by have := h.dep; simp only [PyData.depthAll] at this; exact Nat.max_le.mp this
    have l5 : D.bulk + 1 + PyData.bulkAll ds ≤ b := by have := h.bulk; simpa only [PyData.bulkAll] using this
    have z := SmA.app t (ds := ds) (b := PyData.bulkAll ds) ⟨l1.2, l4.2, l2.2, l3.2, Nat.le_refl _⟩
    exact (SmA.cons ⟨l1.1, l4.1, l2.1, l3.1, Nat.le_refl _⟩ z).mono (Nat.le_refl _) (by omega)
theorem Sm.int {i : Int} (h : i.natAbs < 10 ^ 4300) : Sm 0 0 (.int i) := by
  have z := OkD.int h
  exact ⟨z.lay, by simp [PyData.depth], z.tell, z.short, by simp [PyData.bulk]⟩
theorem SmA.ints : ∀ {ns : List Int}, (∀ n ∈ ns, n.natAbs < 10 ^ 4300) → SmA 0 ns.length (dI ns)
  | [], _ => .nil 0
  | n :: ns, h => (SmA.cons (Sm.int (h n List.mem_cons_self)) (SmA.ints fun m hm => h m (List.mem_cons_of_mem _ hm))).mono (Nat.le_refl _) (by simp; omega)
end SG

/-! Texts: joined signs; lists of values that are drawn. -/
namespace SG
open PySem PySem.Spec PyProof.Rows L2 TL
open SX (S S_tl S_len)
def rJoin (K : PySem.W.Frag) : V → List V → Hp → VK → Prop := fun x xs H Q => ∃ a p, ∃ ys : List Str, x = .str a ∧ xs = [.ref p] ∧ (SqL K H p (ys.map V.str) ∨ SqT K H p (ys.map V.str)) ∧ (ys.map (·.length)).sum + ys.length * a.length ≤ 16777216 ∧ Q (.str (Txt.join a ys)) H
theorem k_join {X : Cx} {K : PySem.W.Frag} {o e : Expr} {to te : TE} {apos pos : Pos} (ho : PE X o to) (he : PE X e te) (eK : X.K = K := by rfl) (hs : starEach [e] X.env = [(false, eval e X.env)] := by rfl) (hbase : attributeBase o "join" X.env (eval o X.env) = eval o X.env := by rfl) (hline : (apos.endLine == pos.line) = true := by rfl) :
    PE X (.Call (.Attribute o "join" apos) [e] [] pos) (tM1 (rJoin K) to te) := eK ▸ pe_join ho he hs hbase hline
/-- single signs, joined -/
theorem join_signs : ∀ gs : List Nat, Txt.join "" (gs.map fun g => (⟨#[g]⟩ : Str)) = S gs := by
  intro gs
  rw [join_eq]
  have z := tl_join "" (gs.map fun g => (⟨#[g]⟩ : Str))
  have e : ∀ ls : List Nat, joinL (tl ("" : Str)) (ls.map fun g => [g]) = ls := by
    intro ls
    induction ls with
    | nil => rfl
    | cons a r ih =>
      cases r with
      | nil => rfl
      | cons b r2 =>
        show [a] ++ (tl ("" : Str) ++ joinL (tl ("" : Str)) ((b :: r2).map fun g => [g])) = _
        rw [ih]
        rfl
  rw [List.map_map] at z
  have z2 := z.trans (e gs)
  exact (S_tl _).symm.trans (congrArg S z2)
/-- a list of values that are drawn, turn by turn -/
theorem lc_drawsV {d l D : Addr} {c n s : Nat} {te : TE} {σ : L2.St} {H1 : Hp} {Qd : Hp → Prop} {B : V → Prop} (D0 : Deck H1 d l c) (hD : H1 D = none) (hn : n ≤ 1000)
    (turn : ∀ (i : Nat) (H2 : Hp), i < n → Deck H2 d l (c + i) → Kept d l H1 H2 → ∀ R : VK, (∀ (x : V) (H3 : Hp), B x → Deck H3 d l (c + i + 1) → Kept d l H2 H3 → R x H3) → te ((wipe σ [s]).set s (some (.int (0 + i)))) H2 R)
    (done : ∀ (xs : List V) (H2 : Hp), xs.length = n → (∀ x ∈ xs, B x) → H2 D = some (.lst xs) → Deck H2 d l (c + n) → Kept d l H1 H2 → Qd H2) :
    ∃ W : Nat → Nat → Hp → Prop, (∃ m, W 0 m (upd H1 D (.lst []))) ∧ ∀ i m H, W i m H →
      ((Itr 0 n).stop i H ∧ Qd H) ∨ ((Itr 0 n).go i H ∧ ∃ Nx : Hp → Prop, (∀ H2, Nx H2 → ∃ m2, m2 < m ∧ W (i + 1) m2 H2) ∧ ∀ x H2, (Itr 0 n).yld i H x H2 → gName s x (wipe σ [s]) H2 fun σ2 H3 => wipe σ2 [s] = wipe σ [s] ∧ tYes σ2 H3 fun b H4 =>
        if b = true then te σ2 H4 fun y H5 => ∃ acc, H5 D = some (.lst acc) ∧ acc.length < sizeLine ∧ Nx (upd H5 D (.lst (acc ++ [y]))) else Nx H4) := by
  obtain ⟨nd, nl⟩ := D0.ne hD
  refine lc_range (fun i H2 => ∃ xs : List V, xs.length = i ∧ (∀ x ∈ xs, B x) ∧ H2 D = some (.lst xs) ∧ Deck H2 d l (c + i) ∧ Kept d l H1 H2) ?_ ?_ ?_
  · exact ⟨[], rfl, (fun _ h => absurd h List.not_mem_nil), upd_same, D0.upd hD, .of (same_new hD)⟩
  · rintro i H2 hi ⟨xs, hx, hB, hD2, D2, k2⟩
    refine ⟨wipe1 _ _ _, ?_⟩
    refine yesI ?_
    refine turn i H2 hi D2 k2 _ fun x H3 hb D3 k3 => ⟨xs, k3 _ _ hD2 nd nl, ?_, xs ++ [x], by simp [hx], fun y hy => ?_, upd_same, ?_, ?_⟩
    · rw [hx]
      exact small1000 (by omega)
    · rcases List.mem_append.mp hy with h | h
      · exact hB y h
      · rw [List.mem_singleton.mp h]; exact hb
    · obtain ⟨cs, m, k, h1, h2, h3⟩ := D3
      exact ⟨cs, m, k, by rw [upd_ne nd.symm]; exact h1, by rw [upd_ne nl.symm]; exact h2, h3⟩
    · intro b o e h1 h2
      rw [upd_ne (ne_of_none e hD)]
      exact k3 _ _ (k2 _ _ e h1 h2) h1 h2
  · rintro H2 ⟨xs, hx, hB, hD2, D2, k2⟩
    exact done xs H2 hx hB hD2 D2 k2
/-- values that are single signs -/
theorem signs_of : ∀ {xs : List V} {p : Nat → Prop}, (∀ x ∈ xs, ∃ g, p g ∧ x = .str ⟨#[g]⟩) → ∃ gs : List Nat, xs = (gs.map fun g => (⟨#[g]⟩ : Str)).map V.str ∧ ∀ g ∈ gs, p g
  | [], _, _ => ⟨[], rfl, fun _ h => nomatch h⟩
  | x :: xs, p, h => by
    obtain ⟨g, hg, rfl⟩ := h x List.mem_cons_self
    obtain ⟨gs, rfl, hs⟩ := signs_of (xs := xs) (p := p) fun y hy => h y (List.mem_cons_of_mem _ hy)
    refine ⟨g :: gs, rfl, fun y hy => ?_⟩
    rcases List.mem_cons.mp hy with rfl | hy
    · exact hg
    · exact hs y hy
theorem sum_ones : ∀ gs : List Nat, ((gs.map fun g => (⟨#[g]⟩ : Str)).map (·.length)).sum = gs.length
  | [] => rfl
  | g :: gs => by
    have ih := sum_ones gs
    simp only [List.map_cons, List.sum_cons, List.length_cons, ih]
    show 1 + gs.length = _
    omega
end SG

/-! enumerate of a text from a number on; an integer's figures of base 2 in an f-string. -/
namespace SG
section
open PySem PyProof.Rows Builtin
def fB : PySem.Builtin.Float.FormatSpec := { fill := 32, align := 62, type := some 98 }
theorem fB_ok : PySem.Builtin.Float.parseFormatSpec ("b" : PySem.Str).cps.toList "int" 62 = .ok fB := by
  rfl
section
variable {prog : Program} {w : World} {A : Around} {E : Value → Shared → Prop} {s : Shared} {env : Env}
theorem mk_eq {M : Model} {X T : PySem.Str} {Q : Value → Shared → Prop} (e : X = T) (hL : T.length ≤ sizeLine) (h : Q (.str T s.toks) { s with toks := s.toks + 1 }) : wpAny M A (mkStr X) Q E s := by
  subst e
  exact wpAny_mkStr h hL
theorem formatField_int_b2 {n : Nat} {t : Tok} {spec : PySem.Str} {f : PySem.Builtin.Float.FormatSpec} {Q : Value → Shared → Prop} (hl : (Nat.toDigits 2 n).length ≤ 1000) (hd : Nat.toDigits 2 n ≠ [])
    (hp : PySem.Builtin.Float.parseFormatSpec spec.cps.toList "int" 62 = .ok f) (hty : f.type = some 98) (hpr : f.precision = none) (hz : f.noNeg0 = false) (hal : f.alt = false) (hw : f.width = none) (hgr : f.grouping = none) (hsg : f.sign = none) (hfi : f.fill = 32) (hag : f.align = 62) (hne : (spec.length == 0) = false) (hsz : spec.length ≤ sizeLine)
    (hasc : ((spec.cps.toList.drop 1).any (· ≥ 128) || (spec.cps.getD 0 0 ≥ 128 && !([60, 62, 61, 94] : List Nat).contains (spec.cps.getD 1 0))) = false)
    (h : Q (.str ⟨((Nat.toDigits 2 n).map Char.toNat).toArray⟩ (s.toks + 1)) { s with toks := s.toks + 1 + 1 }) :
    wpAny (model prog w) A (formatField (.int n t) spec) Q E s := by
  show wpAny _ _ (holding [.int n t] (pyFormat (.int n t) spec)) Q E s
  refine wpAny_holding ?_
  unfold pyFormat
  refine wpAny_bind (wpAny_mkStr ?_ hsz)
  refine wpAny_bind (m := callSpecial? (.int n t) (Str.ofString "__format__") [.str spec s.toks]) (wpAny_callSpecial?_slot (name := Str.ofString "__format__") (typeIs_int _ n t) slot_int_format ?_)
  refine wpAny_call (codeAny_call_builtin slot_int_format.plain entry_int_format (slot_int_format.check _ _ _ _ _ _ _ _ (typeIs_int _ n t) (args_int_format _ _) ?_))
  unfold Builtin.«int.__format__»
  simp only [selfAndOne, noKeywords, Int.intOfSelf, asInt?, asStr?, List.isEmpty_nil, if_true, pure_bind, bind_pure, bind_assoc, hne, hasc, Bool.false_eq_true, if_false,
    show (Value.str spec s.toks == Value.none) = false from rfl]
  refine wpAny_bind (wpAny_typeNameOf (T := "str") (typeIs_str _ _ _) (by decide) fun _ => ?_)
  first | refine wpAny_bind (wpAny_typeNameOfCut_int ?_) | refine wpAny_bind (wpAny_typeNameOf_int ?_)
  simp only [hp, hty, Option.getD_some]
  rw [if_pos (by decide)]
  show wpAny _ _ (if _ then _ else _) _ _ _
  rw [if_neg (by simp [hpr])]
  show wpAny _ _ (if _ then _ else _) _ _ _
  rw [if_neg (by simp [hz])]
  show wpAny _ _ (if _ then _ else _) _ _ _
  rw [if_neg (by decide)]
  show wpAny _ _ (if _ then _ else _) _ _ _
  rw [if_neg (by decide)]
  show wpAny _ _ (if _ then _ else _) _ _ _
  rw [if_neg (by simp [hw])]
  show wpAny _ _ (retStr _) _ _ _
  unfold retStr
  have e : ∀ d : Nat, (if ((98 : Nat) == 88) = true then (Nat.digitChar d).toUpper else Nat.digitChar d).toNat = (Nat.digitChar d).toNat := fun d => rfl
  refine wpAny_bind (mk_eq (T := ⟨((Nat.toDigits 2 n).map Char.toNat).toArray⟩) ?_ ?_ (wpAny_pure ?_))
  · rw [if_neg (show ¬ f.alt = true by rw [hal]; exact Bool.false_ne_true)]
    have e1 : (List.map (fun c : Char => (if ((98 : Nat) == 88) = true then c.toUpper else c).toNat) (Nat.toDigits 2 (n : Int).natAbs)) = (Nat.toDigits 2 n).map Char.toNat := rfl
    have e2 : decide ((n : Int) < 0) = false := decide_eq_false (by omega)
    have e3 : ((Nat.toDigits 2 n).map Char.toNat).isEmpty = false := by
      cases q : Nat.toDigits 2 n with
      | nil => exact absurd q hd
      | cons _ _ => rfl
    rw [e1, e2]
    have ef : f = fB := by
      cases f
      simp_all [fB]
    clear hp hty hpr hz hal hw hgr hsg hfi hag h
    subst ef
    generalize (Nat.toDigits 2 n).map Char.toNat = ds at e3 ⊢
    cases ds with
    | nil => cases e3
    | cons a r =>
      conv => lhs; whnf
      have z : ((-1 : Int) - ((0 : Nat) + (0 : Nat) + (0 : Nat)) - (((a :: r).length : Nat) : Int)).toNat = 0 := by omega

      simp [fB]
      omega
  · show ((Nat.toDigits 2 n).map Char.toNat).toArray.size ≤ sizeLine
    rw [List.size_toArray, List.length_map]
    exact Nat.le_trans hl (by decide)
  · dsimp only
    refine wpAny_bind (wpAny_isInstance (typeIs_str _ _ _) isSubtype_str_str (wpAny_pure ?_))
    exact h
theorem formatField_int_b {n : Nat} {t : Tok} {Q : Value → Shared → Prop} (hl : (Nat.toDigits 2 n).length ≤ 1000) (hd : Nat.toDigits 2 n ≠ [])
    (h : Q (.str ⟨((Nat.toDigits 2 n).map Char.toNat).toArray⟩ (s.toks + 1)) { s with toks := s.toks + 1 + 1 }) :
    wpAny (model prog w) A (formatField (.int n t) "b") Q E s :=
  formatField_int_b2 hl hd fB_ok rfl rfl rfl rfl rfl rfl rfl rfl rfl (by decide +kernel) (by decide) (by decide +kernel) h
end
end
end SG
namespace SG
open PySem PySem.Spec PyProof.Rows L2
section
variable {M : Model} {A : Around} {E : Value → Shared → Prop} {s : Shared} {env : Env}
theorem callWith_tyKwB {pos : Pos} {T : String} {first : List Value} {args : List (Bool × Sem Value)} {keywords : List (Option Str × Sem Value)} {Q : Value → Shared → Prop}
    (hplain : args.any (·.1) = false) (hkw : keywords.any (·.1.isNone) = false)
    (h : wpAny M A (evalArgs (.type T) true args keywords) (fun a s₁ => wpAny M A (call (.type T) (first ++ a.pos) a.kw) Q E s₁) E s) :
    wpAny M A (callWith pos (.type T) first args keywords) Q E s := by
  unfold callWith
  refine wpAny_bind (wpAny_holding (wpAny_mono h (fun a s₁ h₁ => wpAny_bind (wpAny_standAt ?_)) fun _ _ x => x))
  simp only [hplain, hkw, Bool.or_false]
  refine wpAny_bind (wpAny_pure ?_)
  exact wpAny_bind (wpAny_mono h₁ (fun r s₂ hr => wpAny_bind (wpAny_holding (wpAny_point (wpAny_pure hr)))) fun _ _ x => x)
theorem callWith_tyKw {pos : Pos} {T : String} {e : Expr} {rest : List Expr} {kws : List Keyword} {Q : Value → Shared → Prop}
    (h : wpAny M A (spliced (backTo pos (starEach (e :: rest) env))) (fun vs s₁ => wpAny M A (evalAll ((backToKw pos (keywordEach kws env)).map (·.2)))
      (fun kvs s₂ => wpAny M A (call (.type T) vs (((backToKw pos (keywordEach kws env)).filterMap (·.1)).zip kvs)) Q E s₂) E s₁) E s)
    (he : backTo pos (starEach (e :: rest) env) = (false, eval e env) :: backTo pos (starEach rest env) := by rfl)
    (hplain : (backTo pos (starEach (e :: rest) env)).any (·.1) = false := by rfl)
    (hall : (backToKw pos (keywordEach kws env)).all (·.1.isSome) = true := by rfl)
    (hkw : (backToKw pos (keywordEach kws env)).any (·.1.isNone) = false := by rfl) :
    wpAny M A (callWith pos (.type T) [] (backTo pos (starEach (e :: rest) env)) (backToKw pos (keywordEach kws env))) Q E s := by
  refine callWith_tyKwB hplain hkw ?_
  rw [he] at h ⊢
  exact evalArgs_kwB hall h
end
theorem Draws.shift {prog : Program} {w : World} {A : Around} {it : Addr} {fp : List Addr} {n : Nat} {P : Nat → Value → Prop} {St : Nat → Heap → Prop} (D : Draws prog w A it fp n P St) (k : Nat) :
    Draws prog w A it fp (k + n) (fun j v => P (j - k) v) (fun j h => k ≤ j ∧ St (j - k) h) where
  live := fun _ _ st => D.live _ _ st.2
  frame := fun _ _ _ st hk => ⟨st.1, D.frame _ _ _ st.2 hk⟩
  item := fun i s Q E hi st hQ => D.item (i - k) s Q E (by omega) st.2 fun v h' tk p st' sb => hQ v h' tk p ⟨by omega, by rw [show i + 1 - k = i - k + 1 by omega]; exact st'⟩ sb
  done := fun s Q E st hE => D.done s Q E (by rw [show n = k + n - k by omega]; exact st.2) hE
/-- a text's signs, each behind its number, from k on, in a new pair -/
def IteS (x : Str) (k : Nat) : It :=
  ⟨fun i _ => i < x.cps.size, fun i Hx v H2 => ∃ T c, v = .ref T ∧ Hx T = none ∧ x.cps[i]? = some c ∧ H2 = upd Hx T (.tup [.int ((k + i : Nat) : Int), .str ⟨#[c]⟩]), fun i _ => x.cps.size ≤ i⟩
theorem turn_enumS {P : Program} {w : World} {K : PySem.W.Frag} {elts : List Expr} {kk : Nat} {tpos : Pos} (x : Str) (t : Tok) (k : Nat) (e it : Addr) :
    Turn P w K (.Tuple elts kk tpos) (IteS x k) [e, it] e (fun i h => (∃ old, IsEnum h e it ((k + i : Nat) : Int) old) ∧ h.IsStrIter it (strIterType x) x t i ∧ e ≠ it) where
  mem := by simp
  obj := fun i h q b hb => by
    obtain ⟨⟨old, he⟩, ⟨o, ho, hc, hd⟩, _⟩ := q
    rcases (show b = e ∨ b = it by simpa using hb) with z | z
    · rw [z]; exact ⟨_, he, fun v q => nomatch q⟩
    · rw [z]; exact ⟨o, ho, fun v q => by rw [hd] at q; cases q⟩
  keep := fun i h h2 q kp => by
    obtain ⟨⟨old, he⟩, ⟨o, ho, r⟩, hne⟩ := q
    exact ⟨⟨old, kp e (by simp) _ he⟩, ⟨o, kp it (by simp) o ho, r⟩, hne⟩
  item := by
    intro X hP hw hK hc i pins st σ Hx E I hf q hg
    subst hP hw hK
    obtain ⟨⟨old, he⟩, hit, hne⟩ := q
    have hel : e < st.heap.objs.size := Heap.lt_size he
    have hil : it < st.heap.objs.size := by obtain ⟨_, z, _⟩ := hit; exact Heap.lt_size z
    have hi : i < x.cps.size := hg
    refine wpAny_pyNext_enum_itemD (Draws.shift (Draws.text (prog := X.prog) (w := X.w) (A := X.A.in1) (I.ok.hd hc) it x t) k) (i := k + i) he ⟨Nat.le_add_right _ _, by rw [Nat.add_sub_cancel_left]; exact hit⟩ (by omega) hne (by simp [hne]) fun y h1 tk hy ho hs1 hT hsz hk => ?_
    obtain ⟨c, u, hcx, rfl⟩ := hy
    rw [Nat.add_sub_cancel_left] at hcx
    have hs2 := hs1.2
    rw [show k + i + 1 - k = i + 1 by omega] at hs2
    refine ⟨_, rfl, wpAny_letOwnedTupleGo_enum (s := { st with heap := h1, toks := tk + 1 }) ho fun h2 he2 sb => ?_⟩
    have hT2 : h2.get? st.heap.objs.size = some { cls := .type "tuple", data := .seq #[.int ((k + i : Nat) : Int) tk, .str ⟨#[c]⟩ u] } := (sb.2 _ (Nat.ne_of_gt hel)).trans hT
    have new : ObjOk X.prog X.w (upd Hx st.heap.objs.size (.tup [.int ((k + i : Nat) : Int), .str ⟨#[c]⟩])) h2 st.heap.objs.size (.tup [.int ((k + i : Nat) : Int), .str ⟨#[c]⟩]) :=
      ⟨by show 2 ≤ sizeLine; decide, [.int ((k + i : Nat) : Int) tk, .str ⟨#[c]⟩ u], .cons ⟨_, rfl⟩ (.cons ⟨_, rfl⟩ .nil), ⟨_, hT2, rfl, _, rfl⟩⟩
    have I1 : L2.Inv X pins σ (upd Hx st.heap.objs.size (.tup [.int ((k + i : Nat) : Int), .str ⟨#[c]⟩])) { st with heap := h2, toks := tk + 1 } :=
      I.turnedNew (ch := [e, it]) (fun b ob hb z => (sb.2 b (fun z => hb (by simp [z]))).trans (hk b ob (fun z => hb (by simp [z])) (fun z => hb (by simp [z])) z)) hf (Nat.le_refl _) new
    refine ⟨.ref st.heap.objs.size, _, I1, rfl, ⟨_, c, rfl, I.hok.fresh (Nat.le_refl _), hcx, rfl⟩, ⟨⟨.str ⟨#[c]⟩ u, ?_⟩, ?_, hne⟩, fun b hb => ?_⟩
    · rw [show ((k + (i + 1) : Nat) : Int) = ((k + i : Nat) : Int) + 1 by omega]
      exact he2
    · obtain ⟨o, ho, r⟩ := hs2
      exact ⟨o, (sb.2 it (Ne.symm hne)).trans ho, r⟩
    · have hb2 : b < st.heap.objs.size := by
        rcases (show b = e ∨ b = it by simpa using hb) with z | z
        · rw [z]; exact hel
        · rw [z]; exact hil
      rw [upd_ne (Nat.ne_of_lt hb2)]
      exact (hf b hb).1
  done := by
    intro X hP hw hK hc i pins st σ Hx E I hf q hg
    subst hP hw hK
    obtain ⟨⟨old, he⟩, hit, hne⟩ := q
    obtain ⟨f0, f1, f2, f3, f4, f5⟩ := hf it (by simp)
    have hx : x.cps[i]? = none := Array.getElem?_eq_none hg
    have D : Draws X.prog X.w X.A.in1 it [it] i (fun _ _ => True) (fun j h => j = i ∧ h.IsStrIter it (strIterType x) x t i) :=
      { live := fun _ _ z => by obtain ⟨_, ⟨o, ho, _⟩⟩ := z; exact ⟨o, ho⟩
        frame := fun _ _ _ z hk => ⟨z.1, by obtain ⟨o, ho, r⟩ := z.2; exact ⟨o, hk it (by simp) o ho, r⟩⟩
        item := fun j s Q E hj z => absurd z.1 (Nat.ne_of_lt hj)
        done := fun s Q E z hE => ?dn }
    case dn =>
      obtain ⟨_, z⟩ := z
      revert z
      unfold strIterType
      cases ha : x.cps.all (· < 128)
      · simp only [Bool.false_eq_true, if_false]
        intro z
        exact wpAny_nextOf_wide_end (I.ok.hd hc) z hx hE
      · simp only [if_true]
        intro z
        exact wpAny_nextOf_ascii_end (I.ok.hd hc) z hx hE
    exact wpAny_pyNext_enum_endD D he ⟨rfl, hit⟩ fun h2 eb => ⟨rfl, I.turned (t' := st.toks) (fun b o hb q => eb b o hb q) f0 f1 f3 f4 f5⟩
  self := fun A i st Q E q h => by
    obtain ⟨⟨_, he⟩, _⟩ := q
    exact wpAny_pyIter_enum he h
def iEnumS (ta tk : TA) : TI := fun σ Hx R => ta σ Hx fun vs H1 => tk σ H1 fun ks H2 => ∃ (x : Str) (k : Nat), vs = [.str x] ∧ ks = [.int k] ∧ k < 1000000 ∧ R (IteS x k) H2
theorem pi_enumS {X : Cx} {e c : Expr} {ta tk : TA} {p pos tpos kpos : Pos} {elts : List Expr} {kk : Nat} (hg : Gl X "enumerate") (hm : X.mg "enumerate" = none) (ha : PA X [e] ta) (hk : PK X [⟨some "start", c, kpos⟩] tk) (hs : starEach [e] X.env = [(false, eval e X.env)] := by rfl) :
    PI X (.Tuple elts kk tpos) (.Call (.Name "enumerate" p) [e] [⟨some "start", c, kpos⟩] pos) (iEnumS ta tk) := by
  refine ⟨fun pins st σ Hx R I h => ?_⟩
  refine wpAny_Call_Name_kw (ld_blt I hg hm boot_enumerate (callWith_tyKw (thn (ha.run pos pins st σ Hx _ I h) ?_) (by rw [hs]; rfl) (by rw [hs]; rfl)))
  rintro us s1 ⟨vs, H1, I1, r1, q1⟩
  refine thn (hk.run pos pins s1 σ H1 _ I1 q1) ?_
  rintro ws s2 ⟨zs, H2, I2, r2, x, k, rfl, rfl, hk9, q⟩
  obtain ⟨t, rfl⟩ : ∃ t, us = [.str x t] := by
    cases r1 with
    | cons x y => cases y; obtain ⟨t, rfl⟩ := x; exact ⟨_, rfl⟩
  obtain ⟨u, rfl⟩ : ∃ u, ws = [.int k u] := by
    cases r2 with
    | cons x y => cases y; obtain ⟨t, rfl⟩ := x; exact ⟨_, rfl⟩
  show wpAny _ _ (call (.type "enumerate") [.str x t] [(Str.ofString "start", .int k u)]) _ _ _
  refine enum_begins_start (begins_text x t) trivial (by omega) (by omega) fun h2 he hit hsz hkp => wpAny_pyIter_enum he ?_
  have I3 : L2.Inv X pins σ H2 { s2 with heap := h2 } := I2.kept (t' := s2.toks) hkp
  refine ⟨s2.heap.objs.size + 1, [s2.heap.objs.size + 1, s2.heap.objs.size], _, _, H2, rfl, I3, turn_enumS x t k (s2.heap.objs.size + 1) s2.heap.objs.size,
    ⟨⟨.none, he⟩, ⟨_, hit, rfl, rfl⟩, Nat.succ_ne_self _⟩, fun b hb => ?_, q⟩
  have hle : s2.heap.objs.size ≤ b := by
    rcases (show b = s2.heap.objs.size + 1 ∨ b = s2.heap.objs.size by simpa using hb) with z | z
    · rw [z]; exact Nat.le_succ _
    · rw [z]; exact Nat.le_refl _
  exact I2.fpOk hle (I2.hok.fresh hle)
end SG

namespace SG
open PySem PySem.Spec PyProof.Rows L2
open SX (S)
/-- an integer's figures of base 2, as signs -/
def binS (n : Nat) : List Nat := (Nat.toDigits 2 n).map Char.toNat
def tFmtB (te : TE) : TE := fun σ H Q => te σ H fun x H1 => ∃ n : Nat, x = .int n ∧ n < 2 ^ 900 ∧ Q (.str (S (binS n))) H1
theorem bin_len {n : Nat} (h : n < 2 ^ 900) : (Nat.toDigits 2 n).length ≤ 1000 := Nat.le_trans (toDigits_len_pow (by decide) (by decide) h) (by decide)
theorem bin_ne (n : Nat) : Nat.toDigits 2 n ≠ [] := by
  intro e
  have := toDigits_len_ge 2 n
  rw [e] at this
  cases this
theorem pe_fmtB {X : Cx} {e : Expr} {te : TE} {pos p1 p2 : Pos} {j : Nat} (he : PE X e te) : PE X (.FormattedValue e (-1) (some (.JoinedStr [.Constant (.str "b") j p1] p2)) pos) (tFmtB te) := by
  refine ⟨fun pins s σ H Q I h => wpAny_FormattedValue_spec (thn (he.run pins s σ H _ I h) ?_)⟩
  rintro v s1 ⟨x, H1, I1, r1, n, rfl, hn, q⟩
  obtain ⟨t, rfl⟩ := r1
  refine thn ((pe_joined1 (X := X) (pe_str (x := "b"))).run pins s1 σ H1 (fun y H2 => y = .str "b" ∧ H2 = H1) I1 ⟨rfl, rfl⟩) ?_
  rintro u s2 ⟨y, H2, I2, r2, rfl, rfl⟩
  obtain ⟨t2, rfl⟩ := r2
  exact ⟨_, _, rfl, formatField_int_b (bin_len hn) (bin_ne n) ⟨.str (S (binS n)), H2, I2.tok _, ⟨_, rfl⟩, q⟩⟩
theorem walk_enumS {x : Str} {k : Nat} : Walk (IteS x k) x.cps.size (fun _ => True) (fun i H v H' => ∃ T c, v = .ref T ∧ H T = none ∧ x.cps[i]? = some c ∧ H' = upd H T (.tup [.int ((k + i : Nat) : Int), .str ⟨#[c]⟩])) :=
  ⟨fun _ _ hi _ => hi, fun _ _ => Nat.le_refl _, fun _ _ _ _ _ _ y => y⟩
end SG

/-! // by a divisor of either sign; texts of integers below a bound. -/
namespace SG
open PySem PySem.Spec PyProof.Rows L2
/-- // by a divisor that is not 0, below 2 ^ 9000 either way -/
def CDivN (_ j : Int) : Prop := j ≠ 0 ∧ j.natAbs.log2 < 9000
theorem op_fdivN {X : Cx} : OpR X (binaryOp .FloorDiv) (rI CDivN fun i j => .int (i.fdiv j)) := opI fun i j _ _ _ _ _ hc q =>
  floordiv_int hc.1 q (.inl (PyProof.noPylong_of_log2 hc.2))
theorem wide_divN {i j : Int} {b : Nat} (h : j ≠ 0) (hb : j.natAbs < 2 ^ b) (h0 : 0 < b) (h9 : b ≤ 9000) : CDivN i j := ⟨h, Nat.lt_of_lt_of_le (PySem.Flt.log2_lt_of h0 hb) h9⟩
theorem fdiv_pos_eq {a g : Int} (h : 0 < g) : a.fdiv g = a / g := Int.fdiv_eq_ediv_of_nonneg a (by omega)
theorem fdiv_neg_eq {a g : Int} (h : 0 < g) : a.fdiv (-g) = (-a) / g := by
  have z : (-(-a)).fdiv (-g) = (-a).fdiv g := Int.neg_fdiv_neg ..
  rw [Int.neg_neg] at z
  rw [z]
  exact fdiv_pos_eq h
end SG

/-! Data in which empty dicts stand, at any depth: its kind, its text. -/
namespace SG
open PySem PySem.Spec PyProof.Rows L2
mutual
/-- v is the data d, in which dicts are empty ones -/
inductive Dx (K : PySem.W.Frag) (H : Hp) : V → PyData → Prop
  | non : Dx K H .non .none
  | bl (b : Bool) : Dx K H (.bl b) (.bool b)
  | int (i : Int) : Dx K H (.int i) (.int i)
  | str (t : Str) : Dx K H (.str t) (.str t)
  | lst {p : Addr} {xs : List V} {es : List PyData} (hq : SqL K H p xs) (ha : DxAll K H xs es) : Dx K H (.ref p) (.list es)
  | tup {p : Addr} {xs : List V} {es : List PyData} (hq : SqT K H p xs) (ha : DxAll K H xs es) : Dx K H (.ref p) (.tuple es)
  | dct {p : Addr} (hp : H p = some (.dK [])) : Dx K H (.ref p) (.dict [])
inductive DxAll (K : PySem.W.Frag) (H : Hp) : List V → List PyData → Prop
  | nil : DxAll K H [] []
  | cons {x : V} {xs : List V} {e : PyData} {es : List PyData} (hx : Dx K H x e) (ht : DxAll K H xs es) : DxAll K H (x :: xs) (e :: es)
end
section
variable {K : PySem.W.Frag} {H H2 : Hp} {x : V} {d : PyData}
mutual
theorem dx_dp : ∀ {x : V} {d : PyData}, Dp K H x d → Dx K H x d
  | _, _, .non => .non
  | _, _, .bl b => .bl b
  | _, _, .int i => .int i
  | _, _, .str t => .str t
  | _, _, .lst q a => .lst q (dxA_dp a)
  | _, _, .tup q a => .tup q (dxA_dp a)
theorem dxA_dp : ∀ {xs : List V} {ds : List PyData}, DpAll K H xs ds → DxAll K H xs ds
  | _, _, .nil => .nil
  | _, _, .cons a b => .cons (dx_dp a) (dxA_dp b)
end
mutual
theorem dx_same (s : Same H H2) : ∀ {x : V} {d : PyData}, Dx K H x d → Dx K H2 x d
  | _, _, .non => .non
  | _, _, .bl b => .bl b
  | _, _, .int i => .int i
  | _, _, .str t => .str t
  | _, _, .lst q a => .lst (s.seq q) (dxA_same s a)
  | _, _, .tup q a => .tup (sameT s q) (dxA_same s a)
  | _, _, .dct h => .dct (s _ _ h)
theorem dxA_same (s : Same H H2) : ∀ {xs : List V} {ds : List PyData}, DxAll K H xs ds → DxAll K H2 xs ds
  | _, _, .nil => .nil
  | _, _, .cons a b => .cons (dx_same s a) (dxA_same s b)
end
theorem dx_ty (h : Dx K H x d) : TyX K H x (.type (kindOf d)) := by
  cases h with
  | non => exact .base .non
  | bl b => exact .base (.bl b)
  | int i => exact .base (.int i)
  | str s => exact .base (.str s)
  | dct h => exact .base (.dK h)
  | lst s _ =>
    rcases s with (s | ⟨o, s⟩) | ⟨o, vs, n, s, c, _⟩
    · exact .base (.lst s)
    · exact .base (.frz s)
    · exact .kList s c
  | tup s _ =>
    rcases s with (s | ⟨o, s⟩) | ⟨o, vs, n, s, c, _⟩
    · exact .base (.tup s)
    · exact .fTuple s
    · exact .kTuple s c
theorem dxA_len : ∀ {xs : List V} {ds : List PyData}, DxAll K H xs ds → xs.length = ds.length
  | _, _, .nil => rfl
  | _, _, .cons _ b => congrArg (· + 1) (dxA_len b)
theorem dxA_get : ∀ {xs : List V} {ds : List PyData} {i : Nat} {x : V}, DxAll K H xs ds → xs[i]? = some x → ∃ d, ds[i]? = some d ∧ Dx K H x d
  | _, _, _, _, .nil, e => by simp at e
  | _, _, 0, _, .cons a b, e => by
    simp at e
    subst e
    exact ⟨_, rfl, a⟩
  | _, _, i + 1, x, .cons a b, e => by
    obtain ⟨d, h1, h2⟩ := dxA_get (i := i) (x := x) b (by simpa using e)
    exact ⟨d, by simpa using h1, h2⟩
theorem dxA_app : ∀ {xs ys : List V} {ds es : List PyData}, DxAll K H xs ds → DxAll K H ys es → DxAll K H (xs ++ ys) (ds ++ es)
  | _, _, _, _, .nil, h => h
  | _, _, _, _, .cons a b, h => .cons a (dxA_app b h)
theorem dxA_take : ∀ {xs : List V} {ds : List PyData} (n : Nat), DxAll K H xs ds → DxAll K H (xs.take n) (ds.take n)
  | _, _, 0, _ => .nil
  | _, _, _ + 1, .nil => .nil
  | _, _, n + 1, .cons a b => .cons a (dxA_take n b)
theorem dxA_drop : ∀ {xs : List V} {ds : List PyData} (n : Nat), DxAll K H xs ds → DxAll K H (xs.drop n) (ds.drop n)
  | _, _, 0, h => h
  | _, _, _ + 1, .nil => .nil
  | _, _, n + 1, .cons a b => dxA_drop n b
theorem dxA_rev : ∀ {xs : List V} {ds : List PyData}, DxAll K H xs ds → DxAll K H xs.reverse ds.reverse
  | _, _, .nil => .nil
  | _, _, .cons a b => by
    rw [List.reverse_cons, List.reverse_cons]
    exact dxA_app (dxA_rev b) (.cons a .nil)
theorem dx_tuple {ds : List PyData} (h : Dx K H x (.tuple ds)) : ∃ a xs, x = .ref a ∧ SqT K H a xs ∧ DxAll K H xs ds := by
  cases h with
  | tup q a => exact ⟨_, _, rfl, q, a⟩
theorem kit_d (T : String) (p : PyData → Bool) (h : ∀ d, kitB (kindOf d) T = some (p d)) (d : PyData) : PySem.W.kitOne K (.type (kindOf d)) (.type T) = some (p d) := kit_ty (h d)
theorem isx_tuple (d : PyData) : PySem.W.kitOne K (.type (kindOf d)) (.type "tuple") = some (isTup d) := kit_d _ _ (fun d => by
  cases d with
  | none => exact (show kitB "NoneType" "tuple" = some false by decide +kernel)
  | bool _ => exact (show kitB "bool" "tuple" = some false by decide +kernel)
  | int _ => exact (show kitB "int" "tuple" = some false by decide +kernel)
  | str _ => exact (show kitB "str" "tuple" = some false by decide +kernel)
  | list _ => exact (show kitB "list" "tuple" = some false by decide +kernel)
  | tuple _ => exact (show kitB "tuple" "tuple" = some true by decide +kernel)
  | dict _ => exact (show kitB "dict" "tuple" = some false by decide +kernel)) d
theorem isx_int (d : PyData) : PySem.W.kitOne K (.type (kindOf d)) (.type "int") = some (isIntLike d) := kit_d _ _ (fun d => by
  cases d with
  | none => exact (show kitB "NoneType" "int" = some false by decide +kernel)
  | bool _ => exact (show kitB "bool" "int" = some true by decide +kernel)
  | int _ => exact (show kitB "int" "int" = some true by decide +kernel)
  | str _ => exact (show kitB "str" "int" = some false by decide +kernel)
  | list _ => exact (show kitB "list" "int" = some false by decide +kernel)
  | tuple _ => exact (show kitB "tuple" "int" = some false by decide +kernel)
  | dict _ => exact (show kitB "dict" "int" = some false by decide +kernel)) d
theorem isx_bool (d : PyData) : PySem.W.kitOne K (.type (kindOf d)) (.type "bool") = some (isBool d) := kit_d _ _ (fun d => by
  cases d with
  | none => exact (show kitB "NoneType" "bool" = some false by decide +kernel)
  | bool _ => exact (show kitB "bool" "bool" = some true by decide +kernel)
  | int _ => exact (show kitB "int" "bool" = some false by decide +kernel)
  | str _ => exact (show kitB "str" "bool" = some false by decide +kernel)
  | list _ => exact (show kitB "list" "bool" = some false by decide +kernel)
  | tuple _ => exact (show kitB "tuple" "bool" = some false by decide +kernel)
  | dict _ => exact (show kitB "dict" "bool" = some false by decide +kernel)) d
def isStrD : PyData → Bool
  | .str _ => true
  | _ => false
theorem isx_str (d : PyData) : PySem.W.kitOne K (.type (kindOf d)) (.type "str") = some (isStrD d) := kit_d _ _ (fun d => by
  cases d with
  | none => exact (show kitB "NoneType" "str" = some false by decide +kernel)
  | bool _ => exact (show kitB "bool" "str" = some false by decide +kernel)
  | int _ => exact (show kitB "int" "str" = some false by decide +kernel)
  | str _ => exact (show kitB "str" "str" = some true by decide +kernel)
  | list _ => exact (show kitB "list" "str" = some false by decide +kernel)
  | tuple _ => exact (show kitB "tuple" "str" = some false by decide +kernel)
  | dict _ => exact (show kitB "dict" "str" = some false by decide +kernel)) d
end
/-! ### its text -/
mutual
/-- ints of at most 4300 figures, no dict but empty ones -/
def tellE : PyData → Bool
  | .int i => decide (i.natAbs < 10 ^ 4300)
  | .list xs => tellEAll xs
  | .tuple xs => tellEAll xs
  | .dict kvs => kvs.isEmpty
  | .none => true
  | .bool _ => true
  | .str _ => true
def tellEAll : List PyData → Bool
  | [] => true
  | x :: xs => tellE x && tellEAll xs
end
section
variable {X : Cx} {pins : List (Addr × Obj)} {σ : L2.St} {H : Hp} {s : Shared}
theorem dct_at {a : Addr} (I : Inv X pins σ H s) (ha : H a = some (.dK [])) : (a == sysModules) = false ∧ ∃ o n, s.heap.get? a = some o ∧ o.cls = .type "dict" ∧ o.data = .dict #[] n := by
  obtain ⟨_, hs, vs, kv, o, es, ep, e1, e2, e3, e4, e5, _⟩ := I.hok a _ ha
  cases kv
  have e6 : es = #[] := by
    cases es with
    | mk l => cases l with
      | nil => rfl
      | cons y l => cases e5
  subst e6
  exact ⟨hs, o, ep, e1, e2.1, e3⟩
mutual
theorem dx_told (hn : s.heap.NoDigits) (I : Inv X pins σ H s) : ∀ (d : PyData) (v : V) (u : Value), Dx X.K H v d → RelV v u →
    ∃ as, Reads s.heap u d as ∧ (tellE d = true → d.shown.length ≤ sizeLine → ∃ bs, ReadAtMost s.heap d.depth bs ∧ ReprK X.prog X.w bs s.heap d.depth u d.shown)
  | .none, _, _, h, r => by
    cases h
    cases r
    exact ⟨_, .none, fun _ _ => ⟨[], (fun _ h => nomatch h), by simp only [PyData.shown]; exact .of_is ReprIs.none _ _ _⟩⟩
  | .bool b, _, _, h, r => by
    cases h
    cases r
    exact ⟨_, .bool b, fun _ _ => ⟨[], (fun _ h => nomatch h), by simp only [PyData.shown]; exact .of_is (ReprIs.bool b) _ _ _⟩⟩
  | .int i, _, _, h, r => by
    cases h
    obtain ⟨t, rfl⟩ := r
    exact ⟨_, .int i t, fun ht _ => ⟨[], (fun _ h => nomatch h), by simp only [PyData.shown]; exact reprK_int hn (of_decide_eq_true (by simpa only [tellE] using ht)) _⟩⟩
  | .str x, _, _, h, r => by
    cases h
    obtain ⟨t, rfl⟩ := r
    exact ⟨_, .str x t, fun _ hz => ⟨[], (fun _ h => nomatch h), by simp only [PyData.shown] at hz ⊢; exact .of_is (ReprIs.str x t hz) _ _ _⟩⟩
  | .list ds, _, _, h, r => by
    cases h with
    | lst hs ha =>
      rename_i p xs
      cases r
      obtain ⟨its, rv, ⟨o, n, ho, hc, hw, hd⟩, _⟩ := I.list hs
      obtain ⟨as, q4, hk⟩ := dxA_told hn I ds _ its ha rv
      have whole : Reads s.heap (.ref p) (.list ds) _ := .list ho hc hd q4
      refine ⟨_, whole, fun ht hz => ?_⟩
      have hz2 : (listText (PyData.shownAll ds)).length ≤ sizeLine := by simpa only [PyData.shown] using hz
      obtain ⟨bs, rb, kb⟩ := hk (by simpa only [tellE] using ht) fun t m => Nat.le_trans (listText_mem_le m) hz2
      refine ⟨p :: bs, ReadAtMost.cons whole (by simp only [PyData.depth]; omega) rb, ?_⟩
      have notIn : p ∉ bs := not_mem_of_deeper whole (by simp only [PyData.depth]; omega) rb
      simp only [PyData.depth, PyData.shown]
      cases its with
      | nil =>
        cases q4
        simp only [PyData.shownAll, listText_nil]
        exact ReprK.listEmpty ho hc hd
      | cons y l => exact ReprK.list ho hc hd notIn (by simpa using kb.length_eq) fun i y e => kb.item i y (by simpa using e)
  | .tuple ds, _, _, h, r => by
    cases h with
    | tup hs ha =>
      rename_i p xs
      cases r
      obtain ⟨its, rv, ⟨o, ho, hc, n, hd⟩, _⟩ := I.tuple hs
      obtain ⟨as, q4, hk⟩ := dxA_told hn I ds _ its ha rv
      have whole : Reads s.heap (.ref p) (.tuple ds) _ := .tuple ho hc hd q4
      refine ⟨_, whole, fun ht hz => ?_⟩
      have hz2 : (tupleText (PyData.shownAll ds)).length ≤ sizeLine := by simpa only [PyData.shown] using hz
      obtain ⟨bs, rb, kb⟩ := hk (by simpa only [tellE] using ht) fun t m => Nat.le_trans (tupleText_mem_le m) hz2
      refine ⟨p :: bs, ReadAtMost.cons whole (by simp only [PyData.depth]; omega) rb, ?_⟩
      have notIn : p ∉ bs := not_mem_of_deeper whole (by simp only [PyData.depth]; omega) rb
      simp only [PyData.depth, PyData.shown]
      exact ReprK.tuple ho hc hd notIn (by simpa using kb)
  | .dict kvs, _, _, h, r => by
    cases h with
    | dct hp =>
      rename_i p
      cases r
      obtain ⟨hs, o, n, h1, h2, h3⟩ := dct_at I hp
      have whole : Reads s.heap (.ref p) (.dict []) ([p] ++ []) := .dict (as := []) (bs := []) h1 h2 h3 .nil .nil
      refine ⟨_, whole, fun _ _ => ⟨[p], ReadAtMost.cons whole (Nat.le_refl _) (fun _ h => nomatch h), ?_⟩⟩
      have z := ReprK.dict (prog := X.prog) (w := X.w) (as := []) (d := 0) (ps := []) h1 h2 h3 hs (by simp) .nil
      simp only [PyData.depth, PyData.depthKv, PyData.shown, PyData.shownKv]
      exact z
theorem dxA_told (hn : s.heap.NoDigits) (I : Inv X pins σ H s) : ∀ (ds : List PyData) (vs : List V) (us : List Value), DxAll X.K H vs ds → Vals vs us →
    ∃ as, ReadsAll s.heap us ds as ∧ (tellEAll ds = true → (∀ t ∈ PyData.shownAll ds, t.length ≤ sizeLine) → ∃ bs, ReadAtMost s.heap (PyData.depthAll ds) bs ∧ ReprAllK X.prog X.w bs s.heap (PyData.depthAll ds) us (PyData.shownAll ds))
  | [], _, _, h, r => by
    cases h
    cases r
    exact ⟨_, .nil, fun _ _ => ⟨[], (fun _ h => nomatch h), by simp only [PyData.shownAll]; exact .nil⟩⟩
  | d :: ds, _, _, h, r => by
    cases h with
    | cons h1 h2 =>
      cases r with
      | cons r1 r2 =>
        obtain ⟨as1, q1, k1⟩ := dx_told hn I d _ _ h1 r1
        obtain ⟨as2, q2, k2⟩ := dxA_told hn I ds _ _ h2 r2
        refine ⟨_, .cons q1 q2, fun ht hz => ?_⟩
        have ht2 : tellE d = true ∧ tellEAll ds = true := by simpa only [tellEAll, Bool.and_eq_true] using ht
        obtain ⟨c1, rc1, e1⟩ := k1 ht2.1 (hz _ (by simp only [PyData.shownAll]; exact List.mem_cons_self))
        obtain ⟨c2, rc2, e2⟩ := k2 ht2.2 fun t m => hz t (by simp only [PyData.shownAll]; exact List.mem_cons_of_mem _ m)
        refine ⟨c1 ++ c2, (rc1.mono ?_).append (rc2.mono ?_), ?_⟩
        · simp only [PyData.depthAll]; exact Nat.le_max_left _ _
        · simp only [PyData.depthAll]; exact Nat.le_max_right _ _
        · simp only [PyData.depthAll, PyData.shownAll]
          exact .cons ((e1.more fun b m => List.mem_append_left _ m).level_le (Nat.le_max_left _ _)) (e2.more_le (fun b m => List.mem_append_right _ m) (Nat.le_max_right _ _))
end
end
section
variable {X : Cx}
def rReprX (K : PySem.W.Frag) : List V → Hp → VK → Prop := fun xs Hx R => ∃ x d, xs = [x] ∧ Dx K Hx x d ∧ tellE d = true ∧ d.depth ≤ 60 ∧ d.shown.length ≤ sizeLine ∧ R (.str d.shown) Hx
theorem call_reprX (hn : X.base.NoDigits) (hg : X.A.guards = some []) {k : Nat} (hr : Room k X.A) : CallR X (.builtin "repr") (rReprX X.K) := by
  intro pins st σ Hx xs us R I rv h
  obtain ⟨x, d, rfl, hd, ht, hdep, hz, q⟩ := h
  obtain ⟨u, rfl, rx⟩ : ∃ u, us = [u] ∧ RelV x u := by
    cases rv with
    | cons a b => cases b; exact ⟨_, rfl, a⟩
  have hu := hr.units
  have ndig := digs hn I
  cases hd with
  | non =>
    obtain rfl : u = Value.none := rx
    simp only [PyData.shown] at q
    exact PySem.P.repr_of_none ⟨.str _, Hx, I.tok _, ⟨_, rfl⟩, q⟩
  | bl b =>
    obtain rfl : u = Value.bool b := rx
    simp only [PyData.shown] at q
    exact PySem.P.repr_of_bool ⟨.str _, Hx, I.tok _, ⟨_, rfl⟩, q⟩
  | int i =>
    obtain ⟨t, rfl⟩ := rx
    simp only [PyData.shown] at q
    exact int_repr (by omega) ndig (of_decide_eq_true (by simpa only [tellE] using ht)) ⟨.str _, Hx, I.tok _, ⟨_, rfl⟩, q⟩
  | str y =>
    obtain ⟨t, rfl⟩ := rx
    simp only [PyData.shown] at q hz
    exact PySem.P.repr_of_str ⟨.str _, Hx, I.tok _, ⟨_, rfl⟩, q⟩ hz
  | dct hp =>
    rename_i p
    obtain rfl : u = Value.ref p := rx
    obtain ⟨hs, o, n, h1, h2, h3⟩ := dct_at I hp
    have e : PyData.shown (.dict []) = "{}" := by decide +kernel
    rw [e] at q
    exact repr_dict0 h1 h2 h3 hs hg (by omega) fun h2 u tk hk => ⟨.str _, Hx, I.kept (t' := tk) hk, ⟨_, rfl⟩, q⟩
  | lst hs ha =>
    rename_i p xs ds
    obtain rfl : u = Value.ref p := rx
    obtain ⟨its, rv, ⟨o, n, ho, hc, hw, hd⟩, _⟩ := I.list hs
    obtain ⟨as, q4, hk⟩ := dxA_told ndig I ds _ its ha rv
    have whole : Reads st.heap (.ref p) (.list ds) _ := .list ho hc hd q4
    simp only [PyData.depth] at hdep
    simp only [PyData.shown] at q hz
    obtain ⟨bs, rb, kb⟩ := hk (by simpa only [tellE] using ht) fun t m => Nat.le_trans (listText_mem_le m) hz
    have notIn : p ∉ bs := not_mem_of_deeper whole (by simp only [PyData.depth]; omega) rb
    refine call_repr_slot (by omega) ⟨o, ho, hc⟩ F.slot_list_repr.toG ?_
    cases its with
    | nil =>
      cases q4
      simp only [PyData.shownAll, listText_nil] at q
      exact call_list_repr_empty ⟨o, ho, hc⟩ ho hd ⟨_, _, rfl, ⟨.str _, Hx, I.tok _, ⟨_, rfl⟩, q⟩⟩
    | cons y l => exact call_list_reprK ho hc hd notIn (by simpa using kb.length_eq) (fun i y e => kb.item i y (by simpa using e)) hg (fun b _ => Clear.nil b) (by show X.A.units + 1 + _ < _; omega) (fun _ _ e => e) (fun h2 u tk hk => ⟨_, _, rfl, ⟨.str _, Hx, I.kept (t' := tk) hk, ⟨_, rfl⟩, q⟩⟩) hz
  | tup hs ha =>
    rename_i p xs ds
    obtain rfl : u = Value.ref p := rx
    obtain ⟨its, rv, ⟨o, ho, hc, n, hd⟩, _⟩ := I.tuple hs
    obtain ⟨as, q4, hk⟩ := dxA_told ndig I ds _ its ha rv
    have whole : Reads st.heap (.ref p) (.tuple ds) _ := .tuple ho hc hd q4
    simp only [PyData.depth] at hdep
    simp only [PyData.shown] at q hz
    obtain ⟨bs, rb, kb⟩ := hk (by simpa only [tellE] using ht) fun t m => Nat.le_trans (tupleText_mem_le m) hz
    have notIn : p ∉ bs := not_mem_of_deeper whole (by simp only [PyData.depth]; omega) rb
    refine call_repr_slot (by omega) ⟨o, ho, hc⟩ F.slot_tuple_repr ?_
    exact call_tuple_reprK ho hc hd notIn (by simpa using kb) hg (fun b _ => Clear.nil b) (by show X.A.units + 1 + _ < _; omega) (fun _ _ e => e) (fun h2 u tk hk => ⟨_, _, rfl, ⟨.str _, Hx, I.kept (t' := tk) hk, ⟨_, rfl⟩, q⟩⟩) hz
theorem k_reprX {K : PySem.W.Frag} {k : Nat} (hn : X.base.NoDigits) (hg : X.A.guards = some []) (hr : Room k X.A) (e : X.K = K := by rfl) : CallR X (.builtin "repr") (rReprX K) := e ▸ call_reprX hn hg hr
end
end SG

/-! Comparing with an empty list or tuple, whatever is held; whole numbers and truths put together with one. -/
namespace SG
open PySem PySem.Spec PyProof.Rows L2
section
variable {X : Cx}
/-- both lists, or both tuples, the second one empty -/
def NilPair (K : PySem.W.Frag) (H : Hp) (a b : Addr) (xs : List V) : Prop := (SqT K H a xs ∧ SqT K H b []) ∨ (SqL K H a xs ∧ SqL K H b [])
def rEqE (K : PySem.W.Frag) : R2 := fun x y H Q => ∃ a b xs, x = .ref a ∧ y = .ref b ∧ NilPair K H a b xs ∧ Q (.bl xs.isEmpty) H
def rNeE (K : PySem.W.Frag) : R2 := fun x y H Q => ∃ a b xs, x = .ref a ∧ y = .ref b ∧ NilPair K H a b xs ∧ Q (.bl (!xs.isEmpty)) H
theorem size_of_vals {xs : List V} {us : List Value} (r : Vals xs us) : us.toArray.size = xs.length := by rw [List.size_toArray, r.length]
theorem vals_nil {us : List Value} (r : Vals [] us) : us = [] := by cases r; rfl
theorem op_eqE (hu : X.A.units < cLine) : OpR X (compareOp .Eq) (rEqE X.K) := by
  intro pins s σ H x y v u Q I rx ry h
  obtain ⟨a, b, xs, rfl, rfl, h, q⟩ := h
  cases rx
  cases ry
  rcases h with ⟨ha, hb⟩ | ⟨ha, hb⟩
  · obtain ⟨is1, r1, p1, _⟩ := I.tuple ha
    obtain ⟨is2, r2, p2, _⟩ := I.tuple hb
    obtain rfl := vals_nil r2
    have e := size_of_vals r1
    refine SeqAt.eq_tupleAt p1 p2 hu (e := fun _ => true) (fun j _ h2 => absurd h2 (by simp)) ⟨.bl xs.isEmpty, H, I, ?_, q⟩
    show Value.bool _ = Value.bool _
    congr 1
    rw [e]
    cases xs <;> simp
  · obtain ⟨is1, r1, p1, _⟩ := I.list ha
    obtain ⟨is2, r2, p2, _⟩ := I.list hb
    obtain rfl := vals_nil r2
    have e := size_of_vals r1
    cases xs with
    | nil => exact SeqAt.eq_listAt p1.isList p2.isList (by rw [e]; rfl) hu (e := fun _ => true) (fun j _ h2 => absurd h2 (by simp)) ⟨.bl true, H, I, by rw [e]; rfl, q⟩
    | cons z zs => exact SeqAt.eq_list_lengthsAt p1.isList p2.isList (by rw [e]; simp) hu ⟨.bl false, H, I, rfl, q⟩
theorem op_neE (hu : X.A.units < cLine) : OpR X (compareOp .NotEq) (rNeE X.K) := by
  intro pins s σ H x y v u Q I rx ry h
  obtain ⟨a, b, xs, rfl, rfl, h, q⟩ := h
  cases rx
  cases ry
  rcases h with ⟨ha, hb⟩ | ⟨ha, hb⟩
  · obtain ⟨is1, r1, p1, _⟩ := I.tuple ha
    obtain ⟨is2, r2, p2, _⟩ := I.tuple hb
    obtain rfl := vals_nil r2
    have e := size_of_vals r1
    refine SeqAt.RcNeAt.tuples p1 p2 hu (e := fun _ => true) (fun j _ h2 => absurd h2 (by simp)) X.prog X.w X.xe _ ⟨.bl (!xs.isEmpty), H, I, ?_, q⟩
    show Value.bool _ = Value.bool _
    congr 1
    rw [e]
    cases xs <;> simp
  · obtain ⟨is1, r1, p1, _⟩ := I.list ha
    obtain ⟨is2, r2, p2, _⟩ := I.list hb
    obtain rfl := vals_nil r2
    have e := size_of_vals r1
    cases xs with
    | nil => exact SeqAt.RcNeAt.lists p1.isList p2.isList (by rw [e]; rfl) hu (e := fun _ => true) (fun j _ h2 => absurd h2 (by simp)) X.prog X.w X.xe _ ⟨.bl false, H, I, by rw [e]; rfl, q⟩
    | cons z zs => exact SeqAt.RcNeAt.lists_lengths p1.isList p2.isList (by rw [e]; simp) hu X.prog X.w X.xe _ ⟨.bl true, H, I, rfl, q⟩
theorem k_eqE {K : PySem.W.Frag} (hu : X.A.units + 64 < cLine) (e : X.K = K := by rfl) : OpR X (compareOp .Eq) (rEqE K) := e ▸ op_eqE (by omega)
theorem k_neE {K : PySem.W.Frag} (hu : X.A.units + 64 < cLine) (e : X.K = K := by rfl) : OpR X (compareOp .NotEq) (rNeE K) := e ▸ op_neE (by omega)
/-! ### whole numbers and truths -/
/-- the number that a whole number, or a truth, counts as -/
def num : PyData → Int
  | .int i => i
  | .bool b => if b = true then 1 else 0
  | _ => 0
/-- x is the whole number or truth d -/
def NumV (x : V) (d : PyData) : Prop := (∃ i, x = .int i ∧ d = .int i) ∨ (∃ b, x = .bl b ∧ d = .bool b)
def rAddN : R2 := fun x y H Q => ∃ d j, NumV x d ∧ y = .int j ∧ Q (.int (num d + j)) H
def rSubN : R2 := fun x y H Q => ∃ d j, NumV x d ∧ y = .int j ∧ Q (.int (num d - j)) H
def rEqN : R2 := fun x y H Q => ∃ d j, NumV x d ∧ y = .int j ∧ Q (.bl (num d == j)) H
theorem op_addN : OpR X (binaryOp .Add) rAddN := by
  intro pins s σ H x y v u Q I rx ry h
  obtain ⟨d, j, hx, rfl, q⟩ := h
  obtain ⟨t, rfl⟩ := ry
  rcases hx with ⟨i, rfl, rfl⟩ | ⟨b, rfl, rfl⟩
  · obtain ⟨t1, rfl⟩ := rx
    exact add_int ⟨.int (i + j), H, I.tok _, ⟨_, rfl⟩, q⟩
  · cases rx
    exact IntBool.add_bool_int ⟨.int _, H, I.tok _, ⟨_, rfl⟩, q⟩
theorem op_subN : OpR X (binaryOp .Sub) rSubN := by
  intro pins s σ H x y v u Q I rx ry h
  obtain ⟨d, j, hx, rfl, q⟩ := h
  obtain ⟨t, rfl⟩ := ry
  rcases hx with ⟨i, rfl, rfl⟩ | ⟨b, rfl, rfl⟩
  · obtain ⟨t1, rfl⟩ := rx
    exact sub_int ⟨.int (i - j), H, I.tok _, ⟨_, rfl⟩, q⟩
  · cases rx
    exact IntBool.sub_bool_int ⟨.int _, H, I.tok _, ⟨_, rfl⟩, q⟩
theorem op_eqN : OpR X (compareOp .Eq) rEqN := by
  intro pins s σ H x y v u Q I rx ry h
  obtain ⟨d, j, hx, rfl, q⟩ := h
  obtain ⟨t, rfl⟩ := ry
  rcases hx with ⟨i, rfl, rfl⟩ | ⟨b, rfl, rfl⟩
  · obtain ⟨t1, rfl⟩ := rx
    exact SeqAt.RcAt.int_int i t1 j t X.prog X.w X.xe _ ⟨.bl _, H, I, rfl, q⟩
  · cases rx
    exact SeqAt.RcAt.bool_int b j t X.prog X.w X.xe _ ⟨.bl _, H, I, rfl, q⟩
/-- str of a whole number or a truth -/
def numT : PyData → Str
  | .int i => Str.ofString (toString i)
  | .bool b => if b = true then "True" else "False"
  | _ => ""
def rStrN : List V → Hp → VK → Prop := fun xs H Q => ∃ x d, xs = [x] ∧ NumV x d ∧ (num d).natAbs.log2 < 1920 ∧ Q (.str (numT d)) H
theorem call_strN : CallR X (.type "str") rStrN := by
  intro pins s σ H xs us Q I r h
  obtain ⟨x, d, rfl, hx, hl, q⟩ := h
  rcases hx with ⟨i, rfl, rfl⟩ | ⟨b, rfl, rfl⟩
  · exact call_str_int pins s σ H [.int i] us Q I r ⟨i, rfl, hl, q⟩
  · obtain ⟨u, rfl, rx⟩ : ∃ u, us = [u] ∧ RelV (.bl b) u := by
      cases r with
      | cons a c => cases c; exact ⟨_, rfl, a⟩
    cases rx
    exact PySem.P.str_of_bool ⟨.str _, H, I.tok _, ⟨_, rfl⟩, q⟩
end
end SG

/-! Turned round: a tuple or a text; a text twice. -/
namespace SG
open PySem PySem.Spec PyProof.Rows L2
section
variable {prog : Program} {w : World} {A : Around} {Er : Value → Shared → Prop} {s : Shared}
theorem turn_idx {α : Type} (xs : Array α) : (List.range xs.size).filterMap (fun (j : Nat) => xs[(((xs.size : Int) - 1) + (j : Int) * (-1)).toNat]?) = xs.toList.reverse := by
  have e : (fun (j : Nat) => xs[(((xs.size : Int) - 1) + (j : Int) * (-1)).toNat]?) = (fun j => xs[j]?) ∘ fun j : Nat => ((((xs.size : Int) - 1) + (j : Int) * (-1)).toNat) := rfl
  have m : (List.range xs.size).map (fun j : Nat => ((((xs.size : Int) - 1) + (j : Int) * (-1)).toNat)) = (List.range xs.size).map fun j => xs.size - 1 - j := by
    apply List.map_congr_left
    intro j hj
    have := List.mem_range.mp hj
    omega
  rw [e, ← List.filterMap_map, m, PySem.W.krv_range, List.filterMap_reverse, PySem.W.krv_all]
theorem turn_applied {sl : Addr} {vl vu vs : Value} {n : Nat} {Q : Int × Int × Nat → Shared → Prop} (hs : s.heap.IsSliceOf sl vl vu vs) (pl : IsPart vl none) (pu : IsPart vu none) (ps : IsPart vs (some (-1)))
    (h : Q ((n : Int) - 1, -1, n) s) : wpAny (model prog w) A (Builtin.Slice.sliceApplied (.ref sl) (pure (n : Int))) Q Er s := by
  obtain ⟨ob, g1, g2, g3⟩ := id hs
  unfold Builtin.Slice.sliceApplied Builtin.Slice.sliceFields
  refine wpAny_bind (wpAny_bind (wpAny_field g1 g3 (x := vl) rfl (wpAny_bind (wpAny_field g1 g3 (x := vu) rfl (wpAny_bind (wpAny_field g1 g3 (x := vs) rfl (wpAny_pure ?_)))))))
  refine wpAny_bind (HT.slicePart_ ps ?_)
  show wpAny _ _ (if ((-1 : Int) == 0) = true then _ else _) _ _ s
  rw [if_neg (by decide)]
  refine wpAny_bind (HT.slicePart_ pl (wpAny_bind (HT.slicePart_ pu (wpAny_bind (wpAny_pure ?_)))))
  show wpAny _ _ (match Builtin.Slice.sliceAdjust none none (-1) (n : Int) with | (lo, hi) => pure (lo, (-1 : Int), Builtin.Slice.slicePlaces lo hi (-1))) _ _ s
  have e1 : Builtin.Slice.sliceAdjust none none (-1) (n : Int) = ((n : Int) - 1, -1) := by
    unfold Builtin.Slice.sliceAdjust
    simp
  rw [e1]
  show wpAny _ _ (pure ((n : Int) - 1, (-1 : Int), Builtin.Slice.slicePlaces ((n : Int) - 1) (-1) (-1))) _ _ s
  have e2 : Builtin.Slice.slicePlaces ((n : Int) - 1) (-1) (-1) = n := by
    unfold Builtin.Slice.slicePlaces
    rw [if_neg (show ¬ ((-1 : Int) > 0) by decide)]
    by_cases hn : n = 0
    · subst hn
      simp
    · rw [if_pos (show (n : Int) - 1 > -1 by omega)]
      have : ((n : Int) - 1 - -1 - 1) / (- -1) = (n : Int) - 1 := by
        rw [show (- -1 : Int) = 1 by decide, Int.ediv_one]
        omega
      omega
  rw [e2]
  exact wpAny_pure h
theorem getItem_tuple_turn {t sl : Addr} {its : Array Value} {vl vu vs : Value} {Q : Value → Shared → Prop} (ht : IsTup s.heap t its) (hs : s.heap.IsSliceOf sl vl vu vs) (pl : IsPart vl none) (pu : IsPart vu none) (ps : IsPart vs (some (-1)))
    (hz : its.size ≤ sizeLine) (h : Q (.ref s.heap.objs.size) { s with heap := s.heap.push { cls := .type "tuple", data := .seq its.toList.reverse.toArray } }) : wpAny (model prog w) A (getItem (.ref t) (.ref sl)) Q Er s := by
  obtain ⟨ob, g1, g2, g3⟩ := id hs
  have hT : s.TypeIs (.ref sl) "slice" := ⟨ob, g1, g2⟩
  unfold getItem
  (try with_reducible refine wpAny_holding ?_); (first | refine wpAny_bind (wpAny_pure ?_) | skip)
  refine' wpAny_bind (wpAny_sequenceKey ht.typeIs (by decide) ?_)
  refine wpAny_bind (wpAny_callSpecial?_slot (name := Str.ofString "__getitem__") ht.typeIs PyProof.Rows.slot_tuple_getitem (wpAny_call_entry PyProof.Rows.slot_tuple_getitem ht.typeIs entry_tuple_getitem ?_ (args_tuple_getitem _ _)))
  show wpAny (model prog w) _ (Builtin.Tuple.tupleItemsOf (.ref t) >>= _) _ _ s
  refine' wpAny_bind (tupleItemsOf_ ht (wpAny_bind (wpAny_typeOf hT ?_)))
  rw [if_pos (by decide)]
  refine wpAny_bind (turn_applied hs pl pu ps ?_)
  have hno : ¬ ((((its.size : Int) - 1) == 0 && (-1 : Int) == 1 && its.size == its.size) = true) := by simp
  show wpAny _ _ (if (((its.size : Int) - 1) == 0 && (-1 : Int) == 1 && its.size == its.size) = true then _ else _) _ _ s
  rw [if_neg hno, turn_idx]
  have hsz : sizeOk (.seq its.toList.reverse.toArray) := by
    show its.toList.reverse.toArray.size ≤ sizeLine
    rw [List.size_toArray, List.length_reverse, Array.length_toList]
    exact hz
  have fin := h
  first
    | exact wpAny_bind (m := Builtin.Tuple.tupleExact _) (wpAny_newObj_type (wpAny_pure ⟨_, rfl, wpAny_pure fin⟩) hsz)
    | exact wpAny_bind (m := Builtin.Tuple.tupleExact _) (wpAny_newObj_type (wpAny_bind (wpAny_pure (wpAny_pure ⟨_, rfl, wpAny_pure fin⟩))) hsz)
    | exact wpAny_bind (wpAny_bind (m := Builtin.Tuple.tupleExact _) (wpAny_newObj_type (wpAny_pure (wpAny_pure ⟨_, rfl, wpAny_pure fin⟩)) hsz))
    | exact wpAny_bind (wpAny_bind (m := Builtin.Tuple.tupleExact _) (wpAny_newObj_type (wpAny_pure ⟨_, rfl, wpAny_pure fin⟩) hsz))
end
section
variable {X : Cx}
/-- a tuple or a text turned round -/
def tRevX (K : PySem.W.Frag) (te : TE) : TE := fun σ H Q => te σ H fun x H1 => (∃ a xs, x = .ref a ∧ SqT K H1 a xs ∧ ∀ p, H1 p = none → Q (.ref p) (upd H1 p (.tup xs.reverse))) ∨
  (∃ z : Str, x = .str z ∧ z.length ≤ 100000 ∧ ∀ z2 : Str, z2.cps.toList = z.cps.toList.reverse → Q (.str z2) H1)
theorem pe_revX {K : PySem.W.Frag} {e : Expr} {te : TE} {k : Nat} {p1 p2 p3 pos : Pos} (he : PE X e te) (eK : X.K = K := by rfl) :
    PE X (.Subscript e (.Slice none none (some (.UnaryOp .USub (.Constant (.int 1) k p1) p2)) p3) pos) (tRevX K te) := by
  subst eK
  refine ⟨fun pins s σ H Q I h => ?_⟩
  refine Subscript_ (thn (he.run pins s σ H _ I h) fun v s1 ⟨x, H1, I1, r1, q1⟩ => ?_)
  have hstep : PO X (some (.UnaryOp .USub (.Constant (.int 1) k p1) p2)) (tPart (tUn (rU fun i => .int (-i)) (tC (.int 1)))) := po_some (pe_un un_neg pe_int)
  refine wpAny_Slice (thn (po_none.run pins s1 σ H1 (fun o Ha => o = none ∧ Ha = H1) I1 ⟨rfl, rfl⟩) fun vl s2 ⟨lo, H2, I2, pl, e1, e2⟩ => ?_)
  subst e1 e2
  refine thn (po_none.run pins s2 σ H2 (fun o Ha => o = none ∧ Ha = H2) I2 ⟨rfl, rfl⟩) fun vu s3 ⟨hi, H3, I3, pu, e3, e4⟩ => ?_
  subst e3 e4
  refine thn (hstep.run pins s3 σ H3 (fun o Ha => o = some (-1) ∧ Ha = H3) I3 ⟨1, rfl, -1, rfl, rfl, rfl⟩) fun vs s4 ⟨o, H4, I4, ps, e5, e6⟩ => ?_
  subst e5 e6
  have I5 : Inv X pins σ H4 { s4 with heap := s4.heap.push { cls := .type "slice", data := .fields #[vl, vu, vs] } } := I4.kept (t' := s4.toks) fun b ob q => Heap.get?_push_of_some _ q
  rcases q1 with ⟨a, xs, ex, hx, q⟩ | ⟨z, ex, hz, q⟩
  · subst ex
    cases r1
    obtain ⟨its, r, ht, hz⟩ := I5.tuple hx
    have hlen := r.length
    refine PyProof.Rows.tail_any (ops := [.ref a, .ref s4.heap.objs.size]) ht.typeIs PyProof.Rows.slot_tuple_getitem.lookup ?_ (by with_unfolding_all rfl)
    refine getItem_tuple_turn ht (Heap.IsSliceOf.new _ vl vu vs) pl pu ps (by rw [List.size_toArray]; omega) ?_
    refine ⟨.ref _, _, I5.laid (t' := s4.toks) (o := .tup xs.reverse) (fun b ob q => Heap.get?_push_of_some _ q) (Nat.le_refl _) ?_, rfl, q _ (I5.hok.fresh (Nat.le_refl _))⟩
    exact ⟨by rw [List.length_reverse]; exact hz, _, r.reverse, IsTup.new _ _⟩
  · subst ex
    obtain ⟨t, rfl⟩ := r1
    have hsl : ({ s4 with heap := s4.heap.push { cls := .type "slice", data := .fields #[vl, vu, vs] } } : Shared).heap.IsSliceOf s4.heap.objs.size vl vu vs := Heap.IsSliceOf.new _ vl vu vs
    obtain ⟨lo, rfl, e1⟩ := IsPart.raw pl
    obtain ⟨hi, rfl, e2⟩ := IsPart.raw pu
    obtain ⟨st, rfl, e3⟩ := IsPart.raw ps
    obtain ⟨ob, g1, g2, g3⟩ := hsl
    have n1 : lo = none := by cases lo with | none => rfl | some _ => cases e1
    have n2 : hi = none := by cases hi with | none => rfl | some _ => cases e2
    obtain ⟨t3, rfl⟩ : ∃ t3, st = some (-1, t3) := by
      cases st with
      | none => cases e3
      | some p =>
        obtain ⟨c, t3⟩ := p
        have e4 : c = -1 := by simpa using e3
        exact ⟨t3, by rw [e4]⟩
    subst n1 n2
    refine PyProof.Rows.tail_any (ops := [.str z t, .ref s4.heap.objs.size]) (typeIs_str _ _ _) F.slot_str_getitem.lookup ?_ (by with_unfolding_all rfl)
    refine wpAny_getItem_str_slice (l := none) (u := none) (st := some (-1, t3)) ⟨ob, g1, g2, g3⟩ rfl ?_
    have hpick : (slicePicked z none none (some (-1, t3))).filterMap (z.cps[·]?) = z.cps.toList.reverse := by
      have e : slicePicked z none none (some (-1, t3)) = (List.range z.cps.size).map fun j => z.cps.size - 1 - j := PySem.W.krv_sliceRange z.cps.size
      rw [e, PySem.W.krv_range, List.filterMap_reverse, PySem.W.krv_all]
    unfold sliceMade
    rw [if_neg (by simp), hpick]
    have hl : (⟨z.cps.toList.reverse.toArray⟩ : Str).length ≤ sizeLine := by
      show z.cps.toList.reverse.toArray.size ≤ sizeLine
      rw [List.size_toArray, List.length_reverse, Array.length_toList]
      exact Nat.le_trans hz (by decide)
    exact ⟨hl, .str ⟨z.cps.toList.reverse.toArray⟩, H4, I5.tok _, ⟨_, rfl⟩, q _ (by simp)⟩
/-- a text twice -/
def rTwice : R2 := fun x y H Q => ∃ z : Str, x = .str z ∧ y = .int 2 ∧ z.length ≤ 100000 ∧ ∀ z2 : Str, z2.cps.toList = z.cps.toList ++ z.cps.toList → Q (.str z2) H
theorem op_twice : OpR X (binaryOp .Mult) rTwice := by
  intro pins s σ H x y v u Q I rx ry h
  obtain ⟨z, rfl, rfl, hz, q⟩ := h
  obtain ⟨t, rfl⟩ := rx
  obtain ⟨t2, rfl⟩ := ry
  have zl : z.length = z.cps.size := rfl
  refine PySem.P.mul_str (by decide) (fun _ _ => by omega) (fun _ _ => ?_) ?_
  · show decide (z.length * (2 : Int).toNat > sizeLine) = false
    have h2 : (2 : Int).toNat = 2 := rfl
    rw [h2, sizeLine_eq]
    exact decide_eq_false (by omega)
  · rw [if_neg (by decide)]
    by_cases h0 : ((2 : Int) == 1 || z.length == 0) = true
    · rw [if_pos h0]
      have e0 : z.cps.toList = [] := by
        have h1 : z.length = 0 := by simpa using h0
        exact List.eq_nil_of_length_eq_zero (by rw [Array.length_toList, ← zl, h1])
      exact ⟨.str z, H, I, ⟨_, rfl⟩, q z (by rw [e0]; rfl)⟩
    · rw [if_neg h0]
      have e : (List.replicate (2 : Int).toNat z.cps).foldl (· ++ ·) #[] = z.cps ++ z.cps := by
        show (#[] ++ z.cps) ++ z.cps = z.cps ++ z.cps
        rw [Array.empty_append]
      rw [e]
      have hl : (⟨z.cps ++ z.cps⟩ : Str).length ≤ sizeLine := by
        show (z.cps ++ z.cps).size ≤ sizeLine
        rw [Array.size_append, sizeLine_eq]
        omega
      exact ⟨hl, .str ⟨z.cps ++ z.cps⟩, H, I.tok _, ⟨_, rfl⟩, q _ (by simp)⟩
end
end SG

/-! remove of pairs of whole numbers; the set of a tuple of whole numbers. -/
namespace SG
open PySem PySem.Spec PyProof.Rows L2
section
variable {X : Cx}
def pairD (q : Int × Int) : PyData := .tuple [.int q.1, .int q.2]
theorem pairD_plain (q : Int × Int) : (pairD q).plain = true := by simp [pairD, PyData.plain, PyData.plainAll]
theorem pairsD_plain : ∀ qs : List (Int × Int), PyData.plainAll (qs.map pairD) = true
  | [] => by simp [PyData.plainAll]
  | q :: qs => by simp [PyData.plainAll, pairD_plain q, pairsD_plain qs]
theorem pairD_eqv (p q : Int × Int) : PyData.eqv (pairD p) (pairD q) = (p == q) := by
  obtain ⟨a, b⟩ := p
  obtain ⟨c, e⟩ := q
  have h : ((a, b) == (c, e)) = ((a == c) && (b == e)) := rfl
  rw [h]
  simp [pairD, PyData.eqv, PyData.eqvAll]
/-- the objects ys are the pairs qs -/
def Prs (K : PySem.W.Frag) (H : Hp) (ys : List V) (qs : List (Int × Int)) : Prop := Paired (fun (y : V) (q : Int × Int) => ∃ t, y = .ref t ∧ SqT K H t [.int q.1, .int q.2]) ys qs
theorem prs_dp {K : PySem.W.Frag} {H : Hp} : ∀ {ys : List V} {qs : List (Int × Int)}, Prs K H ys qs → DpAll K H ys (qs.map pairD)
  | _, _, .nil => .nil
  | _, _, .cons ⟨t, e, h⟩ r => by
    subst e
    exact .cons (.tup h (.cons (.int _) (.cons (.int _) .nil))) (prs_dp r)
theorem pairs_depth : ∀ qs : List (Int × Int), PyData.depthAll (qs.map pairD) ≤ 1
  | [] => by simp [PyData.depthAll]
  | q :: qs => by
    have := pairs_depth qs
    simp only [List.map_cons, PyData.depthAll, pairD, PyData.depth]
    omega
theorem place_of {qs : List (Int × Int)} {q : Int × Int} {j : Nat} (h : qs.findIdx? (· == q) = some j) : SeqAt.dataPlace (qs.map pairD) (pairD q) = some j := by
  unfold SeqAt.dataPlace
  rw [List.findIdx?_map]
  have e : ((fun y => PyData.eqv y (pairD q)) ∘ pairD) = fun p => p == q := funext fun p => pairD_eqv p q
  rw [e]
  exact h
def rRemP (K : PySem.W.Frag) : V → List V → Hp → VK → Prop := fun x xs H Q => ∃ (l t : Addr) (ys : List V) (qs : List (Int × Int)) (q : Int × Int) (j : Nat), x = .ref l ∧ xs = [.ref t] ∧ H l = some (.lst ys) ∧ Prs K H ys qs ∧ SqT K H t [.int q.1, .int q.2] ∧
  qs.findIdx? (· == q) = some j ∧ Q .non (upd H l (.lst (ys.eraseIdx j)))
theorem len_cut {α : Type} (xs : List α) (j : Nat) : (xs.eraseIdx j).length ≤ xs.length := List.length_eraseIdx_le ..
theorem mt_removeP (hu : X.A.units + 64 < cLine) : MtM X "list.remove" (rRemP X.K) := by
  intro pins s σ H x xs v us Q I rx rxs h
  obtain ⟨l, t, ys, qs, q, j, rfl, rfl, hH, hp, ht, hj, k⟩ := h
  cases rx
  obtain ⟨u, rfl, ru⟩ := rxs.one
  obtain rfl : u = Value.ref t := ru
  obtain ⟨z, its, n, r, hl, e⟩ := I.lstM hH
  obtain ⟨as, ra⟩ := Dp.readsAll I _ _ its (prs_dp hp) r
  obtain ⟨bs, rb⟩ := Dp.reads I (pairD q) (.ref t) (.ref t) (.tup ht (.cons (.int _) (.cons (.int _) .nil))) rfl
  have hd : (pairD q).depth = 1 := by simp [pairD, PyData.depth, PyData.depthAll]
  have hm := Nat.min_le_right (PyData.depthAll (qs.map pairD)) (pairD q).depth
  refine SeqAt.remove_list_data (vs := its.toArray) ⟨_, e, rfl, n, rfl⟩ (by simpa using ra) rb (pairsD_plain qs) (pairD_plain q) (by omega) (place_of hj) (by rw [List.size_toArray]; omega) ?_
  refine ⟨.non, _, I.lset (its' := its.eraseIdx j) (t' := s.toks) hH e ?_ (r.eraseIdx j) ?_, rfl, k⟩
  · show its.toArray.eraseIdxIfInBounds j = (its.eraseIdx j).toArray
    rw [List.eraseIdxIfInBounds_toArray]
  · exact Nat.le_trans (len_cut ys j) z
/-- the set of a tuple's whole numbers -/
def rSetOfI (K : PySem.W.Frag) (w : World) : List V → Hp → VK → Prop := fun vs H Q => ∃ (p : Addr) (ns : List Int), vs = [.ref p] ∧ SqT K H p (ns.map V.int) ∧ ns.length ≤ 1000 ∧ ∀ (a : Addr) (n : Nat), H a = none → n ≤ ns.length → Q (.ref a) (upd H a (SetO w a (fun j => decide (j ∈ ns)) n))
theorem cr_setOfI (hc : X.calm = true) : CallR X (.type "set") (rSetOfI X.K X.w) := by
  intro pins s σ H vs us Q I rv h
  obtain ⟨p, ns, rfl, hp, hl, k⟩ := h
  obtain ⟨u, rfl, ru⟩ := rv.one
  obtain rfl : u = Value.ref p := ru
  obtain ⟨its, r, pt, hz⟩ := I.tuple hp
  have hi : IntsAre its.toArray.toList ns := ints_of_vals r
  refine call_set_tupI ns (I.ok.hd hc) (show s.heap.IsTuple p its.toArray from pt) hi (by unfold scanBound; omega) fun h' tk c R1 hcn kp => ?_
  exact ⟨.ref _, _, I.laid (t' := tk) (o := SetO X.w s.heap.objs.size (fun j => decide (j ∈ ns)) c) kp (Nat.le_refl _) (setO_new R1), rfl, k _ c (I.hok.fresh (Nat.le_refl _)) hcn⟩
theorem k_setOfI {K : PySem.W.Frag} {w : World} (hc : X.calm = true) (e : X.K = K := by rfl) (ew : X.w = w := by rfl) : CallR X (.type "set") (rSetOfI K w) := e ▸ ew ▸ cr_setOfI hc
theorem k_removeP {K : PySem.W.Frag} (hu : X.A.units + 64 < cLine) (e : X.K = K := by rfl) : MtM X "list.remove" (rRemP K) := e ▸ mt_removeP hu
end
end SG

/-! The deck of the later laws: great cells, a mixed number, how many draws there were. -/
namespace SG
open PySem PySem.Spec PyProof.Rows L2
abbrev kG : Key := Sum.inr ("great" : Str)
theorem kgm : ¬ kG = kM := by decide +kernel
theorem kgd : ¬ kG = kD := by decide +kernel
def dekO (l : Addr) (m n : Int) : List (Key × V) := [(kG, .ref l), (kM, .int m), (kD, .int n)]
theorem dek_cells (l : Addr) (m n : Int) : valV (dekO l m n) kG = some (.ref l) := valV_pos rfl
theorem dek_mixed (l : Addr) (m n : Int) : valV (dekO l m n) kM = some (.int m) := (valV_neg kgm).trans (valV_pos rfl)
theorem dek_draws (l : Addr) (m n : Int) : valV (dekO l m n) kD = some (.int n) := (valV_neg kgd).trans ((valV_neg kne3).trans (valV_pos rfl))
theorem dek_put (l : Addr) (m n k : Int) : putK (dekO l m n) kD (.int k) = dekO l m k := by
  have e : (decide (kD = kD)) = true := decide_eq_true rfl
  show (if (decide (kG = kD) || (decide (kM = kD) || (decide (kD = kD) || false))) = true then [if kG = kD then (kG, V.int k) else (kG, V.ref l), if kM = kD then (kM, V.int k) else (kM, V.int m), if kD = kD then (kD, V.int k) else (kD, V.int n)] else _) = _
  rw [decide_eq_false kgd, decide_eq_false kne3, e, if_neg kgd, if_neg kne3, if_pos rfl]
  rfl
theorem dek_made (l : Addr) (m n : Int) : mergeK [] (dekO l m n) = dekO l m n := by
  have e1 : putK ([] : List (Key × V)) kG (.ref l) = [(kG, .ref l)] := rfl
  have e2 : putK [(kG, V.ref l)] kM (.int m) = [(kG, .ref l), (kM, .int m)] := by
    show (if (decide (kG = kM) || false) = true then _ else [(kG, V.ref l)] ++ [(kM, V.int m)]) = _
    rw [decide_eq_false kgm]
    rfl
  have e3 : putK [(kG, V.ref l), (kM, V.int m)] kD (.int n) = dekO l m n := by
    show (if (decide (kG = kD) || (decide (kM = kD) || false)) = true then _ else [(kG, V.ref l), (kM, V.int m)] ++ [(kD, V.int n)]) = _
    rw [decide_eq_false kgd, decide_eq_false kne3]
    rfl
  show putK (putK (putK [] kG (.ref l)) kM (.int m)) kD (.int n) = _
  rw [e1, e2, e3]

/-- a deck stands at d, its cells at l; it was asked at most c times -/
def Dek (H : Hp) (d l : Addr) (c : Nat) : Prop :=
  ∃ (cs : List Int) (m n : Int), H d = some (.dK (dekO l m n)) ∧ H l = some (.lst (cs.map V.int)) ∧ (0 ≤ m ∧ m < 2147483648) ∧ (0 ≤ n ∧ n ≤ (c : Int)) ∧ cs.length ≤ 63
theorem Dek.mono {H : Hp} {d l : Addr} {c e : Nat} (D : Dek H d l c) (h : c ≤ e) : Dek H d l e := by
  obtain ⟨cs, m, n, h1, h2, h3, h4, h5⟩ := D
  exact ⟨cs, m, n, h1, h2, h3, ⟨h4.1, by omega⟩, h5⟩
theorem Dek.same {H H1 : Hp} {d l : Addr} {c : Nat} (D : Dek H d l c) (s : Same H H1) : Dek H1 d l c := by
  obtain ⟨cs, m, n, h1, h2, h3⟩ := D
  exact ⟨cs, m, n, s _ _ h1, s _ _ h2, h3⟩
theorem Dek.upd {H : Hp} {d l p : Addr} {c : Nat} {o : HO} (D : Dek H d l c) (hp : H p = none) : Dek (upd H p o) d l c := by
  obtain ⟨cs, m, n, h1, h2, h3⟩ := D
  exact ⟨cs, m, n, by rw [upd_ne (ne_of_none h1 hp)]; exact h1, by rw [upd_ne (ne_of_none h2 hp)]; exact h2, h3⟩
/-- tuples stay -/
theorem Kept.tupG {K : PySem.W.Frag} {d l : Addr} {H H2 : Hp} {c : Nat} {a : Addr} {xs : List V} (k : Kept d l H H2) (D : Dek H d l c) (h : SqT K H a xs) : SqT K H2 a xs := by
  obtain ⟨cs, m, n, h1, h2, _⟩ := D
  rcases h with (h | ⟨o, h⟩) | h
  · exact .inl (.inl (k _ _ h (ne_of h h1 nofun) (ne_of h h2 nofun)))
  · exact .inl (.inr ⟨o, k _ _ h (ne_of h h1 nofun) (ne_of h h2 nofun)⟩)
  · exact .inr h
theorem gGreat {H : Hp} {d l : Addr} {m n : Int} (h : H d = some (.dK (dekO l m n))) : DGet H d (.str "great") (some (.ref l)) := by
  have z := DGet.k (k := kG) h
  rw [dek_cells] at z
  exact z
theorem gMixed {H : Hp} {d l : Addr} {m n : Int} (h : H d = some (.dK (dekO l m n))) : DGet H d (.str "mixed") (some (.int m)) := by
  have z := DGet.k (k := kM) h
  rw [dek_mixed] at z
  exact z
theorem gDraws {H : Hp} {d l : Addr} {m n : Int} (h : H d = some (.dK (dekO l m n))) : DGet H d (.str "draws") (some (.int n)) := by
  have z := DGet.k (k := kD) h
  rw [dek_draws] at z
  exact z
theorem pDraws {H : Hp} {d l : Addr} {m n : Int} (k : Int) (h : H d = some (.dK (dekO l m n))) : DPut H d (.str "draws") (.int k) (upd H d (.dK (dekO l m k))) := by
  have z := DPut.k (k := kD) (v := .int k) h (by show 3 < sizeLine; decide)
  rw [dek_put] at z
  exact z
theorem Kept.lstG {K : PySem.W.Frag} {d l : Addr} {H H2 : Hp} {c : Nat} {a : Addr} {xs : List V} (k : Kept d l H H2) (D : Dek H d l c) (hl : a ≠ l) (h : SqL K H a xs) : SqL K H2 a xs := by
  obtain ⟨cs, m, n, h1, h2, _⟩ := D
  rcases h with (h | ⟨o, h⟩) | h
  · exact .inl (.inl (k _ _ h (ne_of h h1 nofun) hl))
  · exact .inl (.inr ⟨o, k _ _ h (ne_of h h1 nofun) hl⟩)
  · exact .inr h
theorem Dek.ne {H : Hp} {d l p : Addr} {c : Nat} (D : Dek H d l c) (h : H p = none) : p ≠ d ∧ p ≠ l := by
  obtain ⟨cs, m, n, h1, h2, _⟩ := D
  exact ⟨(ne_of_none h1 h).symm, (ne_of_none h2 h).symm⟩
/-- a list of values that are drawn, turn by turn -/
theorem lc_drawsG {d l D : Addr} {c n s : Nat} {te : TE} {σ : L2.St} {H1 : Hp} {Qd : Hp → Prop} {B : V → Prop} (D0 : Dek H1 d l c) (hD : H1 D = none) (hn : n ≤ 1000)
    (turn : ∀ (i : Nat) (H2 : Hp), i < n → Dek H2 d l (c + i) → Kept d l H1 H2 → ∀ R : VK, (∀ (x : V) (H3 : Hp), B x → Dek H3 d l (c + i + 1) → Kept d l H2 H3 → R x H3) → te ((wipe σ [s]).set s (some (.int (0 + i)))) H2 R)
    (done : ∀ (xs : List V) (H2 : Hp), xs.length = n → (∀ x ∈ xs, B x) → H2 D = some (.lst xs) → Dek H2 d l (c + n) → Kept d l H1 H2 → Qd H2) :
    ∃ W : Nat → Nat → Hp → Prop, (∃ m, W 0 m (upd H1 D (.lst []))) ∧ ∀ i m H, W i m H →
      ((Itr 0 n).stop i H ∧ Qd H) ∨ ((Itr 0 n).go i H ∧ ∃ Nx : Hp → Prop, (∀ H2, Nx H2 → ∃ m2, m2 < m ∧ W (i + 1) m2 H2) ∧ ∀ x H2, (Itr 0 n).yld i H x H2 → gName s x (wipe σ [s]) H2 fun σ2 H3 => wipe σ2 [s] = wipe σ [s] ∧ tYes σ2 H3 fun b H4 =>
        if b = true then te σ2 H4 fun y H5 => ∃ acc, H5 D = some (.lst acc) ∧ acc.length < sizeLine ∧ Nx (upd H5 D (.lst (acc ++ [y]))) else Nx H4) := by
  obtain ⟨nd, nl⟩ := D0.ne hD
  refine lc_range (fun i H2 => ∃ xs : List V, xs.length = i ∧ (∀ x ∈ xs, B x) ∧ H2 D = some (.lst xs) ∧ Dek H2 d l (c + i) ∧ Kept d l H1 H2) ?_ ?_ ?_
  · exact ⟨[], rfl, (fun _ h => absurd h List.not_mem_nil), upd_same, D0.upd hD, .of (same_new hD)⟩
  · rintro i H2 hi ⟨xs, hx, hB, hD2, D2, k2⟩
    refine ⟨wipe1 _ _ _, ?_⟩
    refine yesI ?_
    refine turn i H2 hi D2 k2 _ fun x H3 hb D3 k3 => ⟨xs, k3 _ _ hD2 nd nl, ?_, xs ++ [x], by simp [hx], fun y hy => ?_, upd_same, ?_, ?_⟩
    · rw [hx]
      exact small1000 (by omega)
    · rcases List.mem_append.mp hy with h | h
      · exact hB y h
      · rw [List.mem_singleton.mp h]; exact hb
    · obtain ⟨cs, m, k, h1, h2, h3⟩ := D3
      exact ⟨cs, m, k, by rw [upd_ne nd.symm]; exact h1, by rw [upd_ne nl.symm]; exact h2, h3⟩
    · intro b o e h1 h2
      rw [upd_ne (ne_of_none e hD)]
      exact k3 _ _ (k2 _ _ e h1 h2) h1 h2
  · rintro H2 ⟨xs, hx, hB, hD2, D2, k2⟩
    exact done xs H2 hx hB hD2 D2 k2

/-! ### comprehensions that make new objects alone -/
/-- all but lists stays -/
def Tups (H H' : Hp) : Prop := ∀ b o, H b = some o → (∀ zs, o ≠ .lst zs) → H' b = some o
theorem Tups.of {H H' : Hp} (s : Same H H') : Tups H H' := fun b o e _ => s b o e
theorem lc_same {J : It} {n : Nat} {G : Hp → Prop} {Y : Nat → Hp → V → Hp → Prop} (w : Walk J n G Y) {g : TG} {tt : TT} {te : TE} {vs : List Nat} {σ : L2.St} {H1 : Hp} {D : Addr} {Qd : Hp → Prop} (hn : n ≤ 1000) (hD : H1 D = none)
    (A : Nat → List V → Hp → Prop) (A0 : A 0 [] H1) (Am : ∀ i acc H H', Tups H H' → A i acc H → A i acc H') (hG : ∀ H, Same H1 H → G H)
    (turn : ∀ (i : Nat) (x : V) (acc : List V) (H2 H3 : Hp), i < n → Same H1 H2 → A i acc H2 → Y i H2 x H3 → ∀ (R : VK) (N : Hp → Prop), (∀ y H6, Same H2 H6 → A (i + 1) (acc ++ [y]) H6 → R y H6) → (∀ H6, Same H2 H6 → A (i + 1) acc H6 → N H6) →
      g x (wipe σ vs) H3 fun σ2 H4 => wipe σ2 vs = wipe σ vs ∧ tt σ2 H4 fun b H5 => if b = true then te σ2 H5 R else N H5)
    (done : ∀ (acc : List V) (H2 : Hp), Same H1 H2 → acc.length ≤ n → H2 D = some (.lst acc) → A n acc H2 → Qd H2) :
    ∃ W : Nat → Nat → Hp → Prop, (∃ m, W 0 m (upd H1 D (.lst []))) ∧ ∀ i m H, W i m H →
      (J.stop i H ∧ Qd H) ∨ (J.go i H ∧ ∃ Nx : Hp → Prop, (∀ H', Nx H' → ∃ m', m' < m ∧ W (i + 1) m' H') ∧ ∀ x H', J.yld i H x H' → g x (wipe σ vs) H' fun σ2 H2 => wipe σ2 vs = wipe σ vs ∧ tt σ2 H2 fun b H3 =>
        if b = true then te σ2 H3 fun y H4 => ∃ acc, H4 D = some (.lst acc) ∧ acc.length < sizeLine ∧ Nx (upd H4 D (.lst (acc ++ [y]))) else Nx H3) := by
  refine lc_it w (fun i H => Same H1 H ∧ ∃ acc, H D = some (.lst acc) ∧ acc.length ≤ i ∧ A i acc H) ⟨same_new hD, [], upd_same, Nat.le_refl _, Am _ _ _ _ (.of (same_new hD)) A0⟩ (fun i H _ q => hG H q.1) ?_ ?_
  · rintro i x H H' hi ⟨s, acc, hA, hl, a⟩ hy
    refine turn i x acc H H' hi s a hy _ _ (fun y H6 s6 a6 => ⟨acc, s6 _ _ hA, small1000 (by omega), same_upd_of (s.trans s6) hD, acc ++ [y], upd_same, by rw [List.length_append]; simpa using hl, Am _ _ _ _ ?_ a6⟩) fun H6 s6 a6 => ⟨s.trans s6, acc, s6 _ _ hA, by omega, a6⟩
    intro b o e nl
    have hb : b ≠ D := fun z => nl acc (Option.some.inj (e.symm.trans (by rw [z]; exact s6 _ _ hA)))
    rw [upd_ne hb]
    exact e
  · rintro H ⟨s, acc, hA, hl, a⟩
    exact done acc H s hl hA a
end SG

/-! Small data in which empty dicts stand; it stays while the deck is drawn from. -/
namespace SG
open PySem PySem.Spec PyProof.Rows L2
mutual
/-- whole numbers to m either way, plain texts of at most t signs, no dict but empty ones -/
def fitD (m t : Nat) : PyData → Bool
  | .int i => decide (i.natAbs ≤ m)
  | .str z => z.cps.toList.all (fun c => decide (c < 128)) && decide (z.length ≤ t)
  | .list xs => fitA m t xs
  | .tuple xs => fitA m t xs
  | .dict kvs => kvs.isEmpty
  | .none => true
  | .bool _ => true
def fitA (m t : Nat) : List PyData → Bool
  | [] => true
  | x :: xs => fitD m t x && fitA m t xs
end
mutual
theorem fit_told {m t : Nat} (hm : m < 10 ^ 4300) : ∀ D : PyData, fitD m t D = true → tellE D = true ∧ D.leavesShort 4302 = true
  | .int i, h => by
    have h : i.natAbs ≤ m := of_decide_eq_true (by simpa only [fitD] using h)
    have hi : i.natAbs < 10 ^ 4300 := Nat.lt_of_le_of_lt h hm
    exact ⟨by simp only [tellE]; exact decide_eq_true hi, (OkD.int hi).short⟩
  | .str z, h => by
    have h := h
    simp only [fitD, Bool.and_eq_true, List.all_eq_true, decide_eq_true_eq] at h
    refine ⟨by simp [tellE], ?_⟩
    simp only [PyData.leavesShort, List.all_eq_true, decide_eq_true_eq]
    exact fun c hc => Nat.lt_of_lt_of_le (h.1 c hc) (by decide)
  | .list xs, h => by
    have z := fitA_told (t := t) hm xs (by simpa only [fitD] using h)
    exact ⟨by simpa only [tellE] using z.1, by simpa only [PyData.leavesShort] using z.2⟩
  | .tuple xs, h => by
    have z := fitA_told (t := t) hm xs (by simpa only [fitD] using h)
    exact ⟨by simpa only [tellE] using z.1, by simpa only [PyData.leavesShort] using z.2⟩
  | .dict [], _ => by simp [tellE, PyData.leavesShort, PyData.leavesShortKv]
  | .dict (_ :: _), h => by simp [fitD] at h
  | .none, _ => by simp [tellE, PyData.leavesShort]
  | .bool _, _ => by simp [tellE, PyData.leavesShort]
theorem fitA_told {m t : Nat} (hm : m < 10 ^ 4300) : ∀ ds : List PyData, fitA m t ds = true → tellEAll ds = true ∧ PyData.leavesShortAll 4302 ds = true
  | [], _ => by simp [tellEAll, PyData.leavesShortAll]
  | d :: ds, h => by
    have h2 : fitD m t d = true ∧ fitA m t ds = true := by simpa only [fitA, Bool.and_eq_true] using h
    have z1 := fit_told hm d h2.1
    have z2 := fitA_told hm ds h2.2
    simp only [tellEAll, PyData.leavesShortAll, z1.1, z1.2, z2.1, z2.2, Bool.and_self, and_self]
end
mutual
theorem fit_mono {m t m2 t2 : Nat} (h1 : m ≤ m2) (h2 : t ≤ t2) : ∀ D : PyData, fitD m t D = true → fitD m2 t2 D = true
  | .int i, h => by
    have h : i.natAbs ≤ m := of_decide_eq_true (by simpa only [fitD] using h)
    simp only [fitD]
    exact decide_eq_true (by omega)
  | .str z, h => by
    simp only [fitD, Bool.and_eq_true, decide_eq_true_eq] at h ⊢
    exact ⟨h.1, by omega⟩
  | .list xs, h => by
    simp only [fitD] at h ⊢
    exact fitA_mono h1 h2 xs h
  | .tuple xs, h => by
    simp only [fitD] at h ⊢
    exact fitA_mono h1 h2 xs h
  | .dict _, h => by simpa only [fitD] using h
  | .none, _ => by simp [fitD]
  | .bool _, _ => by simp [fitD]
theorem fitA_mono {m t m2 t2 : Nat} (h1 : m ≤ m2) (h2 : t ≤ t2) : ∀ ds : List PyData, fitA m t ds = true → fitA m2 t2 ds = true
  | [], _ => by simp [fitA]
  | d :: ds, h => by
    have h3 : fitD m t d = true ∧ fitA m t ds = true := by simpa only [fitA, Bool.and_eq_true] using h
    simp only [fitA, fit_mono h1 h2 d h3.1, fitA_mono h1 h2 ds h3.2, Bool.and_self]
end
theorem fitA_mem {m t : Nat} : ∀ {ds : List PyData}, fitA m t ds = true → ∀ d ∈ ds, fitD m t d = true
  | d :: ds, h, e, he => by
    have h3 : fitD m t d = true ∧ fitA m t ds = true := by simpa only [fitA, Bool.and_eq_true] using h
    rcases List.mem_cons.mp he with rfl | he
    · exact h3.1
    · exact fitA_mem h3.2 e he
theorem fitA_of {m t : Nat} : ∀ {ds : List PyData}, (∀ d ∈ ds, fitD m t d = true) → fitA m t ds = true
  | [], _ => by simp [fitA]
  | d :: ds, h => by simp only [fitA, h d List.mem_cons_self, fitA_of fun e he => h e (List.mem_cons_of_mem _ he), Bool.and_self]
theorem bulkA_app : ∀ (a b : List PyData), PyData.bulkAll (a ++ b) = PyData.bulkAll a + PyData.bulkAll b
  | [], b => by simp [PyData.bulkAll]
  | d :: a, b => by
    have := bulkA_app a b
    simp only [List.cons_append, PyData.bulkAll, this]
    omega
theorem bulkA_rev : ∀ a : List PyData, PyData.bulkAll a.reverse = PyData.bulkAll a
  | [] => rfl
  | d :: a => by
    have := bulkA_rev a
    rw [List.reverse_cons, bulkA_app, this]
    simp only [PyData.bulkAll]
    omega
theorem bulkA_take (a : List PyData) (n : Nat) : PyData.bulkAll (a.take n) ≤ PyData.bulkAll a := by
  have := bulkA_app (a.take n) (a.drop n)
  rw [List.take_append_drop] at this
  omega
theorem bulkA_drop (a : List PyData) (n : Nat) : PyData.bulkAll (a.drop n) ≤ PyData.bulkAll a := by
  have := bulkA_app (a.take n) (a.drop n)
  rw [List.take_append_drop] at this
  omega
theorem bulkA_mem : ∀ {a : List PyData} {d : PyData}, d ∈ a → d.bulk + 1 ≤ PyData.bulkAll a
  | e :: a, d, h => by
    simp only [PyData.bulkAll]
    rcases List.mem_cons.mp h with rfl | h
    · omega
    · have := bulkA_mem h
      omega
theorem bulkA_len : ∀ a : List PyData, a.length ≤ PyData.bulkAll a
  | [] => Nat.zero_le _
  | d :: a => by
    have := bulkA_len a
    simp only [PyData.bulkAll, List.length_cons]
    omega
theorem depthA_of {n : Nat} : ∀ {ds : List PyData}, (∀ d ∈ ds, d.depth ≤ n) → PyData.depthAll ds ≤ n
  | [], _ => by simp [PyData.depthAll]
  | d :: ds, h => by
    simp only [PyData.depthAll]
    exact Nat.max_le.mpr ⟨h d List.mem_cons_self, depthA_of fun e he => h e (List.mem_cons_of_mem _ he)⟩
/-- small: how deep, how much in all, how great its numbers, how long its texts -/
structure Sx (n b m t : Nat) (D : PyData) : Prop where
  dep : D.depth ≤ n
  bulk : D.bulk ≤ b
  fit : fitD m t D = true
structure SxA (n b m t : Nat) (ds : List PyData) : Prop where
  dep : ∀ d ∈ ds, d.depth ≤ n
  bulk : PyData.bulkAll ds ≤ b
  fit : ∀ d ∈ ds, fitD m t d = true
section
variable {n b m t n2 b2 m2 t2 : Nat} {D : PyData} {ds es : List PyData}
theorem Sx.mono (h : Sx n b m t D) (h1 : n ≤ n2) (h2 : b ≤ b2) (h3 : m ≤ m2) (h4 : t ≤ t2) : Sx n2 b2 m2 t2 D := ⟨Nat.le_trans h.dep h1, Nat.le_trans h.bulk h2, fit_mono h3 h4 _ h.fit⟩
theorem SxA.mono (h : SxA n b m t ds) (h1 : n ≤ n2) (h2 : b ≤ b2) (h3 : m ≤ m2) (h4 : t ≤ t2) : SxA n2 b2 m2 t2 ds := ⟨fun d hd => Nat.le_trans (h.dep d hd) h1, Nat.le_trans h.bulk h2, fun d hd => fit_mono h3 h4 _ (h.fit d hd)⟩
theorem SxA.tuple (h : SxA n b m t ds) : Sx (n + 1) b m t (.tuple ds) := ⟨by simp only [PyData.depth]; have := depthA_of h.dep; omega, by simpa only [PyData.bulk] using h.bulk, by simp only [fitD]; exact fitA_of h.fit⟩
theorem SxA.list (h : SxA n b m t ds) : Sx (n + 1) b m t (.list ds) := ⟨by simp only [PyData.depth]; have := depthA_of h.dep; omega, by simpa only [PyData.bulk] using h.bulk, by simp only [fitD]; exact fitA_of h.fit⟩
theorem Sx.items (h : Sx n b m t (.tuple ds)) : 1 ≤ n ∧ SxA (n - 1) b m t ds := by
  have h1 := h.dep
  simp only [PyData.depth] at h1
  refine ⟨by omega, fun d hd => ?_, by simpa only [PyData.bulk] using h.bulk, fitA_mem (by simpa only [fitD] using h.fit)⟩
  have := depth_mem hd
  omega
theorem SxA.nil : SxA n b m t [] := ⟨fun _ h => (nomatch h), by simp [PyData.bulkAll], fun _ h => (nomatch h)⟩
theorem SxA.app (h : SxA n b m t ds) (k : SxA n b2 m t es) : SxA n (b + b2) m t (ds ++ es) :=
  ⟨fun d hd => (List.mem_append.mp hd).elim (h.dep d) (k.dep d), by rw [bulkA_app]; have := h.bulk; have := k.bulk; omega, fun d hd => (List.mem_append.mp hd).elim (h.fit d) (k.fit d)⟩
theorem SxA.one (h : Sx n b m t D) : SxA n (b + 1) m t [D] := ⟨fun d hd => by rw [List.mem_singleton.mp hd]; exact h.dep, by simp only [PyData.bulkAll]; have := h.bulk; omega, fun d hd => by rw [List.mem_singleton.mp hd]; exact h.fit⟩
theorem SxA.take (h : SxA n b m t ds) (k : Nat) : SxA n b m t (ds.take k) := ⟨fun d hd => h.dep d (List.mem_of_mem_take hd), Nat.le_trans (bulkA_take _ _) h.bulk, fun d hd => h.fit d (List.mem_of_mem_take hd)⟩
theorem SxA.drop (h : SxA n b m t ds) (k : Nat) : SxA n b m t (ds.drop k) := ⟨fun d hd => h.dep d (List.mem_of_mem_drop hd), Nat.le_trans (bulkA_drop _ _) h.bulk, fun d hd => h.fit d (List.mem_of_mem_drop hd)⟩
theorem SxA.rev (h : SxA n b m t ds) : SxA n b m t ds.reverse := ⟨fun d hd => h.dep d (List.mem_reverse.mp hd), by rw [bulkA_rev]; exact h.bulk, fun d hd => h.fit d (List.mem_reverse.mp hd)⟩
theorem Sx.short (h : Sx n b m t D) (hb : b ≤ 3000) (hm : m < 10 ^ 4300) : D.shown.length ≤ sizeLine := by
  have z := PyData.shown_le_bulk 4302 (by decide) D (fit_told hm D h.fit).2
  have z2 : (4302 + 2) * D.bulk ≤ 4304 * 3000 := Nat.mul_le_mul (Nat.le_refl _) (Nat.le_trans h.bulk hb)
  rw [sizeLine_eq]
  omega
end
/-! ### what stays while the deck is drawn from -/
mutual
/-- v is the data D, held by no object of the deck -/
inductive Dy (K : PySem.W.Frag) (d l : Addr) (H : Hp) : V → PyData → Prop
  | non : Dy K d l H .non .none
  | bl (b : Bool) : Dy K d l H (.bl b) (.bool b)
  | int (i : Int) : Dy K d l H (.int i) (.int i)
  | str (z : Str) : Dy K d l H (.str z) (.str z)
  | lst {p : Addr} {xs : List V} {es : List PyData} (hq : H p = some (.lst xs)) (n1 : p ≠ d) (n2 : p ≠ l) (ha : DyAll K d l H xs es) : Dy K d l H (.ref p) (.list es)
  | tup {p : Addr} {xs : List V} {es : List PyData} (hq : SqT K H p xs) (ha : DyAll K d l H xs es) : Dy K d l H (.ref p) (.tuple es)
  | dct {p : Addr} (hp : H p = some (.dK [])) (n1 : p ≠ d) (n2 : p ≠ l) : Dy K d l H (.ref p) (.dict [])
inductive DyAll (K : PySem.W.Frag) (d l : Addr) (H : Hp) : List V → List PyData → Prop
  | nil : DyAll K d l H [] []
  | cons {x : V} {xs : List V} {e : PyData} {es : List PyData} (hx : Dy K d l H x e) (ht : DyAll K d l H xs es) : DyAll K d l H (x :: xs) (e :: es)
end
section
variable {K : PySem.W.Frag} {d l : Addr} {c : Nat} {H H2 : Hp}
mutual
theorem dy_dx : ∀ {x : V} {D : PyData}, Dy K d l H x D → Dx K H x D
  | _, _, .non => .non
  | _, _, .bl b => .bl b
  | _, _, .int i => .int i
  | _, _, .str t => .str t
  | _, _, .lst q _ _ a => .lst (SqL.of q) (dyA_dx a)
  | _, _, .tup q a => .tup q (dyA_dx a)
  | _, _, .dct h _ _ => .dct h
theorem dyA_dx : ∀ {xs : List V} {ds : List PyData}, DyAll K d l H xs ds → DxAll K H xs ds
  | _, _, .nil => .nil
  | _, _, .cons a b => .cons (dy_dx a) (dyA_dx b)
end
mutual
theorem dy_kept (Dk : Dek H d l c) (k : Kept d l H H2) : ∀ {x : V} {D : PyData}, Dy K d l H x D → Dy K d l H2 x D
  | _, _, .non => .non
  | _, _, .bl b => .bl b
  | _, _, .int i => .int i
  | _, _, .str t => .str t
  | _, _, .lst q n1 n2 a => .lst (k _ _ q n1 n2) n1 n2 (dyA_kept Dk k a)
  | _, _, .tup q a => .tup (k.tupG Dk q) (dyA_kept Dk k a)
  | _, _, .dct h n1 n2 => .dct (k _ _ h n1 n2) n1 n2
theorem dyA_kept (Dk : Dek H d l c) (k : Kept d l H H2) : ∀ {xs : List V} {ds : List PyData}, DyAll K d l H xs ds → DyAll K d l H2 xs ds
  | _, _, .nil => .nil
  | _, _, .cons a b => .cons (dy_kept Dk k a) (dyA_kept Dk k b)
end
mutual
theorem dy_same (s : Same H H2) : ∀ {x : V} {D : PyData}, Dy K d l H x D → Dy K d l H2 x D
  | _, _, .non => .non
  | _, _, .bl b => .bl b
  | _, _, .int i => .int i
  | _, _, .str t => .str t
  | _, _, .lst q n1 n2 a => .lst (s _ _ q) n1 n2 (dyA_same s a)
  | _, _, .tup q a => .tup (sameT s q) (dyA_same s a)
  | _, _, .dct h n1 n2 => .dct (s _ _ h) n1 n2
theorem dyA_same (s : Same H H2) : ∀ {xs : List V} {ds : List PyData}, DyAll K d l H xs ds → DyAll K d l H2 xs ds
  | _, _, .nil => .nil
  | _, _, .cons a b => .cons (dy_same s a) (dyA_same s b)
end
theorem dyA_len : ∀ {xs : List V} {ds : List PyData}, DyAll K d l H xs ds → xs.length = ds.length
  | _, _, .nil => rfl
  | _, _, .cons _ b => congrArg (· + 1) (dyA_len b)
theorem dyA_get : ∀ {xs : List V} {ds : List PyData} {i : Nat} {x : V}, DyAll K d l H xs ds → xs[i]? = some x → ∃ D, ds[i]? = some D ∧ Dy K d l H x D
  | _, _, _, _, .nil, e => by simp at e
  | _, _, 0, _, .cons a b, e => by
    simp at e
    subst e
    exact ⟨_, rfl, a⟩
  | _, _, i + 1, x, .cons a b, e => by
    obtain ⟨D, h1, h2⟩ := dyA_get (i := i) (x := x) b (by simpa using e)
    exact ⟨D, by simpa using h1, h2⟩
theorem dyA_app : ∀ {xs ys : List V} {ds es : List PyData}, DyAll K d l H xs ds → DyAll K d l H ys es → DyAll K d l H (xs ++ ys) (ds ++ es)
  | _, _, _, _, .nil, h => h
  | _, _, _, _, .cons a b, h => .cons a (dyA_app b h)
theorem dyA_take : ∀ {xs : List V} {ds : List PyData} (n : Nat), DyAll K d l H xs ds → DyAll K d l H (xs.take n) (ds.take n)
  | _, _, 0, _ => .nil
  | _, _, _ + 1, .nil => .nil
  | _, _, n + 1, .cons a b => .cons a (dyA_take n b)
theorem dyA_drop : ∀ {xs : List V} {ds : List PyData} (n : Nat), DyAll K d l H xs ds → DyAll K d l H (xs.drop n) (ds.drop n)
  | _, _, 0, h => h
  | _, _, _ + 1, .nil => .nil
  | _, _, n + 1, .cons a b => dyA_drop n b
theorem dyA_rev : ∀ {xs : List V} {ds : List PyData}, DyAll K d l H xs ds → DyAll K d l H xs.reverse ds.reverse
  | _, _, .nil => .nil
  | _, _, .cons a b => by
    rw [List.reverse_cons, List.reverse_cons]
    exact dyA_app (dyA_rev b) (.cons a .nil)
theorem dyA_ints : ∀ ns : List Int, DyAll K d l H (ns.map V.int) (dI ns)
  | [] => .nil
  | n :: ns => .cons (.int n) (dyA_ints ns)
theorem dy_tuple {x : V} {ds : List PyData} (h : Dy K d l H x (.tuple ds)) : ∃ a xs, x = .ref a ∧ SqT K H a xs ∧ DyAll K d l H xs ds := by
  cases h with
  | tup q a => exact ⟨_, _, rfl, q, a⟩
/-- a part cut out -/
theorem dyA_cut {xs : List V} {ds : List PyData} (h : DyAll K d l H xs ds) {n b m t : Nat} (s : SxA n b m t ds) (lo hi : Option Int) : ∃ es, DyAll K d l H (cutV xs lo hi) es ∧ SxA n b m t es :=
  ⟨_, dyA_take _ (dyA_drop _ h), (s.drop _).take _⟩
end
end SG

/-! Readings of literals and parts that give small data, while a deck stands. -/
namespace SG
open PySem PySem.Spec PyProof.Rows L2
/-! ### plain texts -/
def Asc (z : Str) : Prop := ∀ c ∈ z.cps.toList, c < 128
theorem Sx.str {n b m t : Nat} {z : Str} (h : Asc z) (h1 : z.length ≤ t) (h2 : z.length ≤ b) : Sx n b m t (.str z) :=
  ⟨by simp [PyData.depth], by simp only [PyData.bulk]; exact h2, by simp only [fitD, Bool.and_eq_true, List.all_eq_true, decide_eq_true_eq]; exact ⟨h, h1⟩⟩
theorem Sx.int {n b m t : Nat} {i : Int} (h : i.natAbs ≤ m) : Sx n b m t (.int i) := ⟨by simp [PyData.depth], by simp [PyData.bulk], by simp only [fitD]; exact decide_eq_true h⟩
theorem Sx.bool {n b m t : Nat} (k : Bool) : Sx n b m t (.bool k) := ⟨by simp [PyData.depth], by simp [PyData.bulk], by simp [fitD]⟩
theorem Sx.none {n b m t : Nat} : Sx n b m t .none := ⟨by simp [PyData.depth], by simp [PyData.bulk], by simp [fitD]⟩
theorem Sx.dict0 {n b m t : Nat} (hn : 1 ≤ n) : Sx n b m t (.dict []) := ⟨by simp only [PyData.depth, PyData.depthKv]; omega, by simp [PyData.bulk, PyData.bulkKv], by simp [fitD]⟩
theorem Sx.asc {n b m t : Nat} {z : Str} (h : Sx n b m t (.str z)) : Asc z ∧ z.length ≤ t ∧ z.length ≤ b := by
  have f := h.fit
  have k := h.bulk
  simp only [fitD, Bool.and_eq_true, List.all_eq_true, decide_eq_true_eq] at f
  simp only [PyData.bulk] at k
  exact ⟨f.1, f.2, k⟩
theorem asc_cat {a b : Str} (ha : Asc a) (hb : Asc b) : Asc (a ++ b) := fun c hc => by
  have e : (a ++ b).cps.toList = a.cps.toList ++ b.cps.toList := TL.tl_append a b
  rw [e] at hc
  exact (List.mem_append.mp hc).elim (ha c) (hb c)
theorem len_cat (a b : Str) : (a ++ b).length = a.length + b.length := by
  have e : (a ++ b).cps.toList = a.cps.toList ++ b.cps.toList := TL.tl_append a b
  have := congrArg List.length e
  rw [List.length_append] at this
  simpa [Str.length] using this
theorem asc_upper1 : ∀ c, c < 128 → (Unicode.upperOf c).all (fun e => decide (e < 128)) = true ∧ (Unicode.upperOf c).length = 1 := by decide +kernel
theorem upper_list (z : Str) : (Txt.upper z).cps.toList = z.cps.toList.flatMap Unicode.upperOf := by
  unfold Txt.upper placed
  show ((z.cps.mapIdx fun _ c => (Unicode.upperOf c).toArray).flatten).toList = _
  rw [Array.toList_flatten, Array.toList_mapIdx]
  have e : (z.cps.toList.mapIdx fun _ c => (Unicode.upperOf c).toArray) = z.cps.toList.map fun c => (Unicode.upperOf c).toArray := by
    refine List.ext_getElem (by simp) fun i h1 h2 => by simp
  rw [e, List.map_map]
  rfl
theorem asc_upper {z : Str} (h : Asc z) : Asc (Txt.upper z) ∧ (Txt.upper z).length = z.length := by
  have e := upper_list z
  constructor
  · intro c hc
    rw [e] at hc
    obtain ⟨x, hx, hc⟩ := List.mem_flatMap.mp hc
    have := List.all_eq_true.mp (asc_upper1 x (h x hx)).1 c hc
    exact of_decide_eq_true this
  · have l := congrArg List.length e
    have k : ∀ xs : List Nat, (∀ c ∈ xs, c < 128) → (xs.flatMap Unicode.upperOf).length = xs.length := by
      intro xs
      induction xs with
      | nil => intro _; rfl
      | cons a r ih =>
        intro hh
        rw [List.flatMap_cons, List.length_append, ih fun c hc => hh c (List.mem_cons_of_mem _ hc), (asc_upper1 a (hh a List.mem_cons_self)).2, List.length_cons]
        omega
    rw [k _ h] at l
    simpa [Str.length] using l
theorem cut_mem {z : Str} (lo hi : Option Int) (h : Asc z) : Asc (cutS z lo hi) ∧ (cutS z lo hi).length ≤ z.length := by
  refine ⟨fun c hc => ?_, cutS_length z lo hi⟩
  refine h c ?_
  have hc2 : c ∈ ((z.cps.toList.drop (HT.sIx z.length 0 lo)).take (HT.sIx z.length z.length hi - HT.sIx z.length 0 lo)).toArray.toList := hc
  exact List.mem_of_mem_drop (List.mem_of_mem_take hc2)
theorem num_asc (D : PyData) : Asc (numT D) := by
  have hi : ∀ i : Int, Asc (Str.ofString (toString i)) := by
    intro i c hc
    rw [signs_ofString] at hc
    obtain ⟨ch, h1, rfl⟩ := List.mem_map.mp hc
    rcases int_sign i ch h1 with h | rfl
    · have := digit_range h
      omega
    · decide
  have hx : ∀ c ∈ ("" : Str).cps.toList, c < 128 := by decide +kernel
  cases D with
  | int i => exact hi i
  | bool k => cases k <;> (show ∀ c ∈ _, _) <;> decide +kernel
  | none => exact hx
  | str _ => exact hx
  | list _ => exact hx
  | tuple _ => exact hx
  | dict _ => exact hx
/-! ### readings -/
/-- x is small data, no object of the deck -/
def Itm (K : PySem.W.Frag) (d l : Addr) (n b m t : Nat) (H : Hp) (x : V) : Prop := ∃ D, Dy K d l H x D ∧ Sx n b m t D
theorem Itm.same {K : PySem.W.Frag} {d l : Addr} {n b m t : Nat} {H H2 : Hp} {x : V} (s : Same H H2) (h : Itm K d l n b m t H x) : Itm K d l n b m t H2 x := by
  obtain ⟨D, h1, h2⟩ := h
  exact ⟨D, dy_same s h1, h2⟩
theorem Itm.kept {K : PySem.W.Frag} {d l : Addr} {c n b m t : Nat} {H H2 : Hp} {x : V} (Dk : Dek H d l c) (k : Kept d l H H2) (h : Itm K d l n b m t H x) : Itm K d l n b m t H2 x := by
  obtain ⟨D, h1, h2⟩ := h
  exact ⟨D, dy_kept Dk k h1, h2⟩
theorem Itm.mono {K : PySem.W.Frag} {d l : Addr} {n b m t n2 b2 m2 t2 : Nat} {H : Hp} {x : V} (h : Itm K d l n b m t H x) (h1 : n ≤ n2) (h2 : b ≤ b2) (h3 : m ≤ m2) (h4 : t ≤ t2) : Itm K d l n2 b2 m2 t2 H x := by
  obtain ⟨D, e1, e2⟩ := h
  exact ⟨D, e1, e2.mono h1 h2 h3 h4⟩
section
variable {K : PySem.W.Frag} {d l : Addr} {c n b m t : Nat} {σ : L2.St} {H0 : Hp}
/-- te gives the data D -/
def WdE (K : PySem.W.Frag) (d l : Addr) (c : Nat) (σ : L2.St) (H0 : Hp) (te : TE) (D : PyData) : Prop := ∀ (H : Hp) (Q : VK), Same H0 H → Dek H d l c → (∀ x H2, Same H H2 → Dek H2 d l c → Dy K d l H2 x D → Q x H2) → te σ H Q
def WdA (K : PySem.W.Frag) (d l : Addr) (c : Nat) (σ : L2.St) (H0 : Hp) (ta : TA) (ds : List PyData) : Prop := ∀ (H : Hp) (Q : List V → Hp → Prop), Same H0 H → Dek H d l c → (∀ xs H2, Same H H2 → Dek H2 d l c → DyAll K d l H2 xs ds → Q xs H2) → ta σ H Q
/-- te gives small data -/
def WxE (K : PySem.W.Frag) (d l : Addr) (c n b m t : Nat) (σ : L2.St) (H0 : Hp) (te : TE) : Prop := ∀ (H : Hp) (Q : VK), Same H0 H → Dek H d l c → (∀ x H2, Same H H2 → Dek H2 d l c → Itm K d l n b m t H2 x → Q x H2) → te σ H Q
def WxA (K : PySem.W.Frag) (d l : Addr) (c n b m t : Nat) (σ : L2.St) (H0 : Hp) (ta : TA) (N : Nat) : Prop := ∀ (H : Hp) (Q : List V → Hp → Prop), Same H0 H → Dek H d l c → (∀ xs H2, Same H H2 → Dek H2 d l c → (∀ x ∈ xs, Itm K d l n b m t H2 x) → xs.length = N → Q xs H2) → ta σ H Q
theorem WdE.to {te : TE} {D : PyData} (a : WdE K d l c σ H0 te D) (s : Sx n b m t D) : WxE K d l c n b m t σ H0 te := fun H Q s0 dk q => a H Q s0 dk fun x H2 s2 dk2 h => q x H2 s2 dk2 ⟨D, h, s⟩
theorem WdE.v {i : Nat} {x : V} {D : PyData} (e : σ[i]? = some (some x)) (h : Dy K d l H0 x D) : WdE K d l c σ H0 (tVar i) D := fun H Q s dk q => ⟨x, e, q x H (Same.refl _) dk (dy_same s h)⟩
theorem WdE.con {v : V} {D : PyData} (h : ∀ H, Dy K d l H v D) : WdE K d l c σ H0 (tC v) D := fun H Q _ dk q => q v H (Same.refl _) dk (h H)
theorem WdE.non : WdE K d l c σ H0 (tC .non) .none := .con fun _ => .non
theorem WdE.bl {k : Bool} : WdE K d l c σ H0 (tC (.bl k)) (.bool k) := .con fun _ => .bl k
theorem WdE.int {i : Int} : WdE K d l c σ H0 (tC (.int i)) (.int i) := .con fun _ => .int i
theorem WdE.str {z : Str} : WdE K d l c σ H0 (tC (.str z)) (.str z) := .con fun _ => .str z
theorem WdE.neg {i : Int} : WdE K d l c σ H0 (tUn (rU fun j => V.int (-j)) (tC (.int i))) (.int (-i)) := fun H Q _ dk q => ⟨i, rfl, q _ H (Same.refl _) dk (.int _)⟩
theorem WdE.dct : WdE K d l c σ H0 tDNewK (.dict []) := fun H Q _ dk q p np => q (.ref p) _ (same_new np) (dk.upd np) (.dct upd_same (dk.ne np).1 (dk.ne np).2)
theorem WdA.nil : WdA K d l c σ H0 tNil [] := fun H Q _ dk q => q [] H (Same.refl _) dk .nil
theorem WdA.cons {te : TE} {ta : TA} {D : PyData} {ds : List PyData} (a : WdE K d l c σ H0 te D) (k : WdA K d l c σ H0 ta ds) : WdA K d l c σ H0 (tCons te ta) (D :: ds) := fun H Q s dk q =>
  a H _ s dk fun x H1 s1 dk1 h1 => k H1 _ (s.trans s1) dk1 fun xs H2 s2 dk2 h2 => q (x :: xs) H2 (s1.trans s2) dk2 (.cons (dy_same s2 h1) h2)
theorem WdE.tup {ta : TA} {ds : List PyData} (a : WdA K d l c σ H0 ta ds) (hl : ds.length ≤ 1000) : WdE K d l c σ H0 (tTup ta) (.tuple ds) := fun H Q s dk q =>
  a H _ s dk fun xs H1 s1 dk1 h1 => ⟨Nat.le_of_lt (small1000 (by rw [dyA_len h1]; exact hl)), fun p np => q (.ref p) _ (s1.trans (same_new np)) (dk1.upd np) (.tup (.inl (.inl upd_same)) (dyA_same (same_new np) h1))⟩
theorem WdE.lst {ta : TA} {ds : List PyData} (a : WdA K d l c σ H0 ta ds) (hl : ds.length ≤ 1000) : WdE K d l c σ H0 (tLst ta) (.list ds) := fun H Q s dk q =>
  a H _ s dk fun xs H1 s1 dk1 h1 => ⟨Nat.le_of_lt (small1000 (by rw [dyA_len h1]; exact hl)), fun p np => q (.ref p) _ (s1.trans (same_new np)) (dk1.upd np) (.lst upd_same (dk1.ne np).1 (dk1.ne np).2 (dyA_same (same_new np) h1))⟩
theorem WdE.listOf {te : TE} {ds : List PyData} (a : WdE K d l c σ H0 te (.tuple ds)) : WdE K d l c σ H0 (tCB (rListOf K) (tCons te tNil)) (.list ds) := fun H Q s dk q =>
  a H _ s dk fun x H1 s1 dk1 h1 => by
    obtain ⟨p, xs, rfl, hp, ha⟩ := dy_tuple h1
    exact ⟨p, xs, rfl, .inr hp, fun r nr => q (.ref r) _ (s1.trans (same_new nr)) (dk1.upd nr) (.lst upd_same (dk1.ne nr).1 (dk1.ne nr).2 (dyA_same (same_new nr) ha))⟩
theorem WdE.cat {t1 t2 : TE} {ds es : List PyData} (a : WdE K d l c σ H0 t1 (.tuple ds)) (k : WdE K d l c σ H0 t2 (.tuple es)) (hl : ds.length + es.length ≤ 1000) : WdE K d l c σ H0 (tOp (rCatU K) t1 t2) (.tuple (ds ++ es)) := fun H Q s dk q =>
  a H _ s dk fun x H1 s1 dk1 h1 => k H1 _ (s.trans s1) dk1 fun y H2 s2 dk2 h2 => by
    obtain ⟨p, xs, rfl, hp, ha⟩ := dy_tuple (dy_same s2 h1)
    obtain ⟨r, ys, rfl, hr, hb⟩ := dy_tuple h2
    have e1 := dyA_len ha
    have e2 := dyA_len hb
    exact ⟨p, r, xs, ys, rfl, rfl, hp, hr, Nat.le_of_lt (small1000 (by omega)), fun z H3 s3 h3 => q (.ref z) H3 ((s1.trans s2).trans s3) (dk2.same s3) (.tup h3 (dyA_same s3 (dyA_app ha hb)))⟩
/-- what a part of a list is -/
def cutD (ds : List PyData) (lo hi : Option Int) : List PyData := (ds.drop (HT.sIx ds.length 0 lo)).take (HT.sIx ds.length ds.length hi - HT.sIx ds.length 0 lo)
def Pt (σ : L2.St) (tp : TO) (o : Option Int) : Prop := ∀ (H : Hp) (Q : Option Int → Hp → Prop), Q o H → tp σ H Q
theorem Pt.no : Pt σ tNoPart none := fun _ _ q => q
theorem Pt.int {i : Int} : Pt σ (tPart (tC (.int i))) (some i) := fun _ _ q => ⟨i, rfl, q⟩
theorem Pt.neg {i : Int} : Pt σ (tPart (tUn (rU fun j => V.int (-j)) (tC (.int i)))) (some (-i)) := fun _ _ q => ⟨i, rfl, -i, rfl, q⟩
theorem Pt.var {i : Nat} {j : Int} (e : σ[i]? = some (some (.int j))) : Pt σ (tPart (tVar i)) (some j) := fun _ _ q => ⟨_, e, j, rfl, q⟩
theorem Pt.var1 {i : Nat} {j : Int} (e : σ[i]? = some (some (.int j))) : Pt σ (tPart (tOp (rI0 fun i j => V.int (i + j)) (tVar i) (tC (.int 1)))) (some (j + 1)) := fun _ _ q => ⟨_, e, _, _, rfl, rfl, j + 1, rfl, q⟩
theorem WdE.slc {te : TE} {lo hi : TO} {o1 o2 : Option Int} {ds : List PyData} (a : WdE K d l c σ H0 te (.tuple ds)) (h1 : Pt σ lo o1) (h2 : Pt σ hi o2) : WdE K d l c σ H0 (tSl (rSlU K) te lo hi) (.tuple (cutD ds o1 o2)) := fun H Q s dk q =>
  a H _ s dk fun x H1 s1 dk1 hx => h1 _ _ (h2 _ _ (by
    obtain ⟨p, xs, rfl, hp, ha⟩ := dy_tuple hx
    refine ⟨p, xs, rfl, hp, fun z H3 s3 h3 => q (.ref z) H3 (s1.trans s3) (dk1.same s3) (.tup h3 (dyA_same s3 ?_))⟩
    have e := dyA_len ha
    unfold cutV cutD
    rw [← e]
    exact dyA_take _ (dyA_drop _ ha)))
theorem WdE.rev {te : TE} {ds : List PyData} (a : WdE K d l c σ H0 te (.tuple ds)) : WdE K d l c σ H0 (tRevX K te) (.tuple ds.reverse) := fun H Q s dk q =>
  a H _ s dk fun x H1 s1 dk1 hx => by
    obtain ⟨p, xs, rfl, hp, ha⟩ := dy_tuple hx
    exact .inl ⟨p, xs, rfl, hp, fun r nr => q (.ref r) _ (s1.trans (same_new nr)) (dk1.upd nr) (.tup (.inl (.inl upd_same)) (dyA_same (same_new nr) (dyA_rev ha)))⟩
theorem WxA.nil : WxA K d l c n b m t σ H0 tNil 0 := fun H Q _ dk q => q [] H (Same.refl _) dk (fun _ h => (nomatch h)) rfl
theorem WxA.cons {te : TE} {ta : TA} {N : Nat} (a : WxE K d l c n b m t σ H0 te) (k : WxA K d l c n b m t σ H0 ta N) : WxA K d l c n b m t σ H0 (tCons te ta) (N + 1) := fun H Q s dk q =>
  a H _ s dk fun x H1 s1 dk1 h1 => k H1 _ (s.trans s1) dk1 fun xs H2 s2 dk2 h2 hl => q (x :: xs) H2 (s1.trans s2) dk2 (fun y hy => by
    rcases List.mem_cons.mp hy with rfl | hy
    · exact h1.same s2
    · exact h2 y hy) (by rw [List.length_cons, hl])
theorem SxA.cutD {ds : List PyData} (h : SxA n b m t ds) (lo hi : Option Int) : SxA n b m t (SG.cutD ds lo hi) := (h.drop _).take _
end
end SG

/-! More rules with the written part as a letter; three keywords, turned round. -/
namespace SG
open PySem PySem.Spec PyProof.Rows L2
section
variable {X : Cx} {K : PySem.W.Frag} {w : World}
def rInS (K : PySem.W.Frag) : R2 := fun x y H Q => ∃ p xs, y = .ref p ∧ (SqL K H p xs ∨ SqT K H p xs) ∧ flatV x = true ∧ xs.all flatV = true ∧ Q (.bl (inV x xs)) H
def rNotS (K : PySem.W.Frag) : R2 := fun x y H Q => ∃ p xs, y = .ref p ∧ (SqL K H p xs ∨ SqT K H p xs) ∧ flatV x = true ∧ xs.all flatV = true ∧ Q (.bl (!inV x xs)) H
theorem k_in (e : X.K = K := by rfl) : OpR X (compareOp .In) (rInS K) := by
  subst e
  exact op_in_seq
theorem k_notin (e : X.K = K := by rfl) : OpR X (compareOp .NotIn) (rNotS K) := by
  subst e
  exact op_notIn_seq
def rMaxK (K : PySem.W.Frag) : List V → Hp → VK → Prop := fun vs H Q => ∃ (a : Addr) (ns : List Int), vs = [V.ref a] ∧ SqL K H a (ns.map V.int) ∧ 0 < ns.length ∧ ∀ m, m ∈ ns → (∀ y, y ∈ ns → y ≤ m) → Q (.int m) H
def rMinK1 (K : PySem.W.Frag) : List V → Hp → VK → Prop := fun vs H Q => ∃ (a : Addr) (ns : List Int), vs = [V.ref a] ∧ SqL K H a (ns.map V.int) ∧ 0 < ns.length ∧ ∀ m, m ∈ ns → (∀ y, y ∈ ns → m ≤ y) → Q (.int m) H
theorem k_max (hc : X.calm = true) (e : X.K = K := by rfl) : CallR X (.builtin "max") (rMaxK K) := by
  subst e
  exact cr_max hc
theorem k_min (hc : X.calm = true) (e : X.K = K := by rfl) : CallR X (.builtin "min") (rMinK1 K) := by
  subst e
  exact cr_min hc
theorem k_sortI (e : X.K = K := by rfl) : CallR X (.builtin "sorted") (rSortedI K) := e ▸ cr_sortedI
theorem k_sortPO (e : X.K = K := by rfl) : CallR X (.builtin "sorted") (rSortedPO K) := e ▸ cr_sortedPO
theorem k_sortSet (hc : X.calm = true) (e : X.w = w := by rfl) : CallR X (.builtin "sorted") (rSortedSet w) := e ▸ cr_sortedSet hc
def rDictP (K : PySem.W.Frag) : List V → Hp → VK → Prop := fun xs H Q => ∃ (a : Addr) (ps : List Addr) (kvs : List (Key × V)), xs = [.ref a] ∧ SqL K H a (ps.map V.ref) ∧ Paired (fun p kv => SqT K H p [kV kv.1, kv.2]) ps kvs ∧ ∀ p, H p = none → Q (.ref p) (upd H p (.dK (mergeK [] kvs)))
theorem k_dictP (hc : X.calm = true) (e : X.K = K := by rfl) : CallR X (.type "dict") (rDictP K) := by
  subst e
  exact call_dictP hc
end
section
variable {X : Cx} {K : PySem.W.Frag}
theorem k_zipA {e e2 : Expr} {ta : TA} {p pos tpos : Pos} {elts : List Expr} {kk : Nat} (hg : Gl X "zip") (hm : X.mg "zip" = none) (ha : PA X [e, e2] ta)
    (hs : starEach [e, e2] X.env = (false, eval e X.env) :: starEach [e2] X.env := by rfl) (hpl : (backTo pos (starEach [e2] X.env)).any (·.1) = false := by rfl) (eK : X.K = K := by rfl) :
    PI X (.Tuple elts kk tpos) (.Call (.Name "zip" p) [e, e2] [] pos) (RZ.iZipA K ta) := eK ▸ RZ.pi_zipA hg hm ha hs hpl
end
theorem walk_zipT {K : PySem.W.Frag} {a b : Addr} {xs ys : List V} {n : Nat} (hn : n = min xs.length ys.length) : Walk (RZ.ItzT K a b) n (fun H => SqT K H a xs ∧ SqT K H b ys) (YPair (fun i => xs[i]?) (fun i => ys[i]?)) := by
  subst hn
  refine ⟨fun i _ hi q => ?_, fun _ q => ⟨xs, ys, q.1, q.2, by omega⟩, fun i H v H' _ q y => ?_⟩
  · have l1 : i < xs.length := by omega
    have l2 : i < ys.length := by omega
    exact ⟨xs, ys, xs[i], ys[i], q.1, q.2, by simp [l1], by simp [l2]⟩
  · obtain ⟨T, x, z, g1, g2, g3, g4, g5⟩ := y
    exact ⟨T, x, z, g1, g2, g3, g4 xs q.1, g5 ys q.2⟩
/-- three keywords, the last one first -/
def kwThree {α : Type} : List α → List α → List α
  | [], [c, b, a] => [a, b, c]
  | _, _ => []
theorem kwThree_rel {vs : List V} {us : List Value} {zs : List V} {ws : List Value} (a : Vals vs us) (b : Vals zs ws) : Vals (kwThree vs zs) (kwThree us ws) := by
  cases a with
  | cons _ _ => exact .nil
  | nil =>
    cases b with
    | nil => exact .nil
    | cons r t =>
      cases t with
      | nil => exact .nil
      | cons r2 t2 =>
        cases t2 with
        | nil => exact .nil
        | cons r3 t3 =>
          cases t3 with
          | nil => exact .cons r3 (.cons r2 (.cons r .nil))
          | cons _ _ => exact .nil
theorem kwThree_args {α : Type} {us ws : List α} (h : (kwThree us ws).length = 3) : ∃ x y z, us = [] ∧ ws = [x, y, z] := by
  match us, ws, h with
  | [], [x, y, z], _ => exact ⟨x, y, z, rfl, rfl⟩
  | [], [], h => exact absurd h (by simp [kwThree])
  | [], [_], h => exact absurd h (by simp [kwThree])
  | [], [_, _], h => exact absurd h (by simp [kwThree])
  | [], _ :: _ :: _ :: _ :: _, h => exact absurd h (by simp [kwThree])
  | _ :: _, _, h => exact absurd h (by simp [kwThree])
end SG

/-! Joins of the lightest: plain mathematics over whole numbers. -/
namespace SG
def wt (told : List Int) (k : Int) : Int := told.getD k.toNat 0
def ascI : List Int → Bool
  | a :: b :: r => decide (a < b) && ascI (b :: r)
  | _ => true
/-- none that is left is lighter than one of those joined, but these themselves -/
def okTop (told left ns : List Int) : Bool := left.all fun k => decide (k ∈ ns) || ns.all fun j => decide (wt told j ≤ wt told k)
def joinI (size : Nat) (told left ns : List Int) : Bool := ns.length == size && ns.all (fun k => decide (k ∈ left)) && ascI ns && okTop told left ns
def sumW (told ns : List Int) : Int := (ns.map (wt told)).sum
def leftI (told left ns : List Int) : List Int := left.filter (fun k => !decide (k ∈ ns)) ++ [(told.length : Int)]
/-- all that is left stands among the told ones, none twice -/
structure Lft (told left : List Int) : Prop where
  lo : ∀ k ∈ left, 0 ≤ k ∧ k < told.length
  nd : left.Nodup
theorem Lft.next {told left ns : List Int} {x : Int} (h : Lft told left) : Lft (told ++ [x]) (leftI told left ns) := by
  refine ⟨fun k hk => ?_, ?_⟩
  · rw [List.length_append, List.length_singleton]
    unfold leftI at hk
    rcases List.mem_append.mp hk with hk | hk
    · have := h.lo k (List.mem_filter.mp hk).1
      omega
    · rw [List.mem_singleton.mp hk]
      omega
  · unfold leftI
    refine List.nodup_append.mpr ⟨h.nd.sublist List.filter_sublist, List.nodup_cons.mpr ⟨List.not_mem_nil, List.nodup_nil⟩, fun a ha b hb => ?_⟩
    rw [List.mem_singleton.mp hb]
    have := (h.lo a (List.mem_filter.mp ha).1).2
    omega
theorem wt_app {told : List Int} {x k : Int} (h0 : 0 ≤ k) (h : k < told.length) : wt (told ++ [x]) k = wt told k := by
  unfold wt
  rw [List.getD_eq_getElem?_getD, List.getD_eq_getElem?_getD, List.getElem?_append_left (by omega)]
theorem wt_new {told : List Int} {x : Int} : wt (told ++ [x]) (told.length : Int) = x := by
  unfold wt
  rw [List.getD_eq_getElem?_getD, Int.toNat_natCast, List.getElem?_append_right (Nat.le_refl _)]
  simp
/-- a strictly ascending row has none twice -/
theorem asc_nodup : ∀ {ns : List Int}, ascI ns = true → ns.Pairwise (· < ·)
  | [], _ => .nil
  | [a], _ => .cons (fun _ h => (nomatch h)) .nil
  | a :: b :: r, h => by
    have h2 : a < b ∧ ascI (b :: r) = true := by simpa [ascI] using h
    have ih := asc_nodup h2.2
    refine .cons (fun x hx => ?_) ih
    rcases List.mem_cons.mp hx with rfl | hx
    · exact h2.1
    · have := (List.pairwise_cons.mp ih).1 x hx
      omega
theorem asc_of : ∀ {ns : List Int}, ns.Pairwise (· < ·) → ascI ns = true
  | [], _ => rfl
  | [a], _ => rfl
  | a :: b :: r, h => by
    have h2 := List.pairwise_cons.mp h
    simp only [ascI, Bool.and_eq_true, decide_eq_true_eq]
    exact ⟨h2.1 b List.mem_cons_self, asc_of h2.2⟩
theorem len_left {told left ns : List Int} (nd : left.Nodup) (hn : ns.Nodup) (sub : ∀ k ∈ ns, k ∈ left) : (leftI told left ns).length + ns.length = left.length + 1 := by
  have key : ∀ (ns left : List Int), left.Nodup → ns.Nodup → (∀ k ∈ ns, k ∈ left) → (left.filter (fun k => !decide (k ∈ ns))).length + ns.length = left.length := by
    intro ns
    induction ns with
    | nil => intro left _ _ _; simp
    | cons a r ih =>
      intro left nd hn sub
      have hn2 := List.nodup_cons.mp hn
      have ha := sub a List.mem_cons_self
      have e : left.filter (fun k => !decide (k ∈ a :: r)) = (left.erase a).filter (fun k => !decide (k ∈ r)) := by
        rw [List.Nodup.erase_eq_filter nd]
        rw [List.filter_filter]
        apply List.filter_congr
        intro x _
        by_cases hx : x = a
        · subst hx; simp
        · simp [hx]
      rw [e]
      have nd2 : (left.erase a).Nodup := nd.erase a
      have z := ih (left.erase a) nd2 hn2.2 fun k hk => (List.mem_erase_of_ne (fun q => hn2.1 (by rw [← q]; exact hk))).mpr (sub k (List.mem_cons_of_mem _ hk))
      have l := List.length_erase_of_mem ha
      have pos : 0 < left.length := List.length_pos_of_mem ha
      rw [List.length_cons]
      omega
  have z := key ns left nd hn sub
  unfold leftI
  rw [List.length_append, List.length_singleton]
  omega
end SG

namespace SG
open PySem PySem.Spec PyProof.Rows L2
def topS (i : Nat) : Stmt := PySem.Challenge.pw_serialhouse_k54_joins_of_any_hand.main.body.getD i (.Pass ⟨0, 0, 0, 0⟩)
abbrev s_is_integer : Stmt := topS 1
abbrev N_is_integer : List Str := ["thing"]
theorem sc_is_integer : FnScope N_is_integer ["thing"] (defScope s_is_integer) := ⟨rfl, rfl, rfl, by decide +kernel, rfl, by decide +kernel, by decide +kernel⟩
abbrev s_is_below : Stmt := topS 2
abbrev N_is_below : List Str := ["thing", "size"]
theorem sc_is_below : FnScope N_is_below ["thing", "size"] (defScope s_is_below) := ⟨rfl, rfl, rfl, by decide +kernel, rfl, by decide +kernel, by decide +kernel⟩
abbrev s_is_ascending : Stmt := topS 3
abbrev N_is_ascending : List Str := ["things", "one", "other"]
theorem sc_is_ascending : FnScope N_is_ascending ["things"] (defScope s_is_ascending) := ⟨rfl, rfl, rfl, by decide +kernel, rfl, by decide +kernel, by decide +kernel⟩
abbrev s_joined_at_first : Stmt := topS 5
abbrev N_joined_at_first : List Str := ["letters", "many"]
theorem sc_joined_at_first : FnScope N_joined_at_first ["letters", "many"] (defScope s_joined_at_first) := ⟨rfl, rfl, rfl, by decide +kernel, rfl, by decide +kernel, by decide +kernel⟩
abbrev s_joins_for : Stmt := topS 6
abbrev N_joins_for : List Str := ["letters", "weights", "told", "left", "joins", "size", "lightest", "join", "node", "_", "weight"]
theorem sc_joins_for : FnScope N_joins_for ["letters", "weights"] (defScope s_joins_for) := ⟨rfl, rfl, rfl, by decide +kernel, rfl, by decide +kernel, by decide +kernel⟩
abbrev s_joins_hold : Stmt := topS 7
abbrev N_joins_hold : List Str := ["letters", "weights", "thing", "told", "left", "size", "join", "node"]
theorem sc_joins_hold : FnScope N_joins_hold ["letters", "weights", "thing"] (defScope s_joins_hold) := ⟨rfl, rfl, rfl, by decide +kernel, rfl, by decide +kernel, by decide +kernel⟩
abbrev s_is_join : Stmt := topS 8
abbrev N_is_join : List Str := ["thing", "size", "many", "node"]
theorem sc_is_join : FnScope N_is_join ["thing", "size", "many"] (defScope s_is_join) := ⟨rfl, rfl, rfl, by decide +kernel, rfl, by decide +kernel, by decide +kernel⟩
abbrev s_can_be_joined : Stmt := topS 9
abbrev N_can_be_joined : List Str := ["told", "left", "join", "greatest", "node"]
theorem sc_can_be_joined : FnScope N_can_be_joined ["told", "left", "join"] (defScope s_can_be_joined) := ⟨rfl, rfl, rfl, by decide +kernel, rfl, by decide +kernel, by decide +kernel⟩
abbrev s__law_deck : Stmt := topS 11
abbrev N__law_deck : List Str := ["_law_script", "_law_mixed", "_law_cell"]
theorem sc__law_deck : FnScope N__law_deck ["_law_script"] (defScope s__law_deck) := ⟨rfl, rfl, rfl, by decide +kernel, rfl, by decide +kernel, by decide +kernel⟩
abbrev s__law_draw : Stmt := topS 12
abbrev N__law_draw : List Str := ["_law_deck_here", "_law_many", "_law_turn", "_law_cell", "_law_mixed"]
theorem sc__law_draw : FnScope N__law_draw ["_law_deck_here", "_law_many"] (defScope s__law_draw) := ⟨rfl, rfl, rfl, by decide +kernel, rfl, by decide +kernel, by decide +kernel⟩
abbrev s__law_pick : Stmt := topS 13
abbrev N__law_pick : List Str := ["_law_deck_here", "_law_some"]
theorem sc__law_pick : FnScope N__law_pick ["_law_deck_here", "_law_some"] (defScope s__law_pick) := ⟨rfl, rfl, rfl, by decide +kernel, rfl, by decide +kernel, by decide +kernel⟩
abbrev s__law_odd : Stmt := topS 14
abbrev N__law_odd : List Str := ["_law_deck_here", "_law_it", "_law_some"]
theorem sc__law_odd : FnScope N__law_odd ["_law_deck_here", "_law_it"] (defScope s__law_odd) := ⟨rfl, rfl, rfl, by decide +kernel, rfl, by decide +kernel, by decide +kernel⟩
abbrev s__law_bent : Stmt := topS 15
abbrev N__law_bent : List Str := ["_law_deck_here", "_law_it", "_law_at"]
theorem sc__law_bent : FnScope N__law_bent ["_law_deck_here", "_law_it"] (defScope s__law_bent) := ⟨rfl, rfl, rfl, by decide +kernel, rfl, by decide +kernel, by decide +kernel⟩
abbrev s__law_weights : Stmt := topS 16
abbrev N__law_weights : List Str := ["_law_deck_here", "_law_top", "_law_go"]
theorem sc__law_weights : FnScope N__law_weights ["_law_deck_here"] (defScope s__law_weights) := ⟨rfl, rfl, rfl, by decide +kernel, rfl, by decide +kernel, by decide +kernel⟩
abbrev s__law_drawn_joins : Stmt := topS 17
abbrev N__law_drawn_joins : List Str := ["_law_deck_here", "_law_letters", "_law_weights_here", "_law_left", "_law_found", "_law_many", "_law_step", "_law_some", "_law_go", "_law_low", "_law_k", "_law_weight", "_law_pair"]
theorem sc__law_drawn_joins : FnScope N__law_drawn_joins ["_law_deck_here", "_law_letters", "_law_weights_here"] (defScope s__law_drawn_joins) := ⟨rfl, rfl, rfl, by decide +kernel, rfl, by decide +kernel, by decide +kernel⟩
abbrev s__law_are_joins : Stmt := topS 18
abbrev N__law_are_joins : List Str := ["_law_letters", "_law_weights_here", "_law_thing", "_law_left", "_law_worths", "_law_at", "_law_join", "_law_many", "_law_top", "_law_k", "_law_weight"]
theorem sc__law_are_joins : FnScope N__law_are_joins ["_law_letters", "_law_weights_here", "_law_thing"] (defScope s__law_are_joins) := ⟨rfl, rfl, rfl, by decide +kernel, rfl, by decide +kernel, by decide +kernel⟩
abbrev s__law_right : Stmt := topS 19
abbrev N__law_right : List Str := ["_law_deck_here", "_law_letters", "_law_weights_here", "_law_some", "_law_values", "_law_go", "_law_bent_here", "_law_it", "_law_kept", "_law_due", "_law_told", "_law_join"]
theorem sc__law_right : FnScope N__law_right ["_law_deck_here", "_law_letters", "_law_weights_here"] (defScope s__law_right) := ⟨rfl, rfl, rfl, by decide +kernel, rfl, by decide +kernel, by decide +kernel⟩
abbrev s_law : Stmt := topS 20
abbrev N_law : List Str := ["_law_script", "_law_deck_here", "_law_go", "_law_some", "_law_it"]
theorem sc_law : FnScope N_law ["_law_script"] (defScope s_law) := ⟨rfl, rfl, rfl, by decide +kernel, rfl, by decide +kernel, by decide +kernel⟩
structure Txt (mg : Str → Option Value) : Prop where
  all : mg "all" = none
  bool : mg "bool" = none
  dict : mg "dict" = none
  enumerate : mg "enumerate" = none
  int : mg "int" = none
  isinstance : mg "isinstance" = none
  len : mg "len" = none
  list : mg "list" = none
  max : mg "max" = none
  min : mg "min" = none
  range : mg "range" = none
  repr : mg "repr" = none
  set : mg "set" = none
  sorted : mg "sorted" = none
  str : mg "str" = none
  sum : mg "sum" = none
  tuple : mg "tuple" = none
  zip : mg "zip" = none
section
variable {P : Program} {w : World} {K : PySem.W.Frag} {mg : Str → Option Value} {base : Heap}
def spDraw : Sp := fun vs H Q _ => ∃ (d l : Addr) (c : Nat) (k : Int), vs = [.ref d, .int k] ∧ Dek H d l c ∧ c < 1000000 ∧ 0 < k ∧ k < 1073741824 ∧
  ∀ (r : Int) (H2 : Hp), 0 ≤ r → r < k → Dek H2 d l (c + 1) → Kept d l H H2 → Q (.int r) H2
theorem ok_draw {f : Addr} {fd : FuncData} (F : Fun K "_law_draw" "_law_draw" s__law_draw f fd) (T : Txt mg) : GFn P w K mg base CX0 1 f fd ["_law_deck_here", "_law_many"] spDraw := by
  refine gfun_ok F sc__law_draw (fun vs H Q E h => ?_) (fun cdv A outer s H vs Q E hgu hr h => ?_)
  · obtain ⟨d, l, c, k, rfl, _⟩ := h
    rfl
  · obtain ⟨d, l, c, k, rfl, D, hc, k0, k1', q⟩ := h
    have nd := sc__law_draw.nd
    refine ⟨_, (pss_cons (ps_set (i := 2) nd rfl (Or.inl rfl) (pe_op op_add (pe_dget (hu_of hr) (pv 0) pe_str (fun _ _ => rfl)) pe_int))
      (pss_cons (ps_dput (hu_of hr) (pv 0) pe_str (pv 2) rfl)
      (pss_cons (ps_if (pt_cmpR (k_neD (K := K) hr.units) (pe_dget (hu_of hr) (pv 0) pe_str (fun _ _ => rfl)) (pe_lst pa_nil) (nomark _)) (pss_cons (ps_set (i := 3) nd rfl (Or.inl rfl) (pe_callTy call_int1 (by rfl) T.int (by decide +kernel) (pa_cons (pe_bm0 PySem.F.plainAttrs_list PySem.F.slot_list_pop PySem.F.type_list_pop mt_pop (pe_dget (hu_of hr) (pv 0) pe_str (fun _ _ => rfl))) pa_nil)))
      (C8.pss_cut (ps_if (pt_cmpR op_ge (pv 3) (pv 1) (nomark _)) (pss_one (ps_expr (pe_bm PySem.F.plainAttrs_list PySem.F.slot_list_append PySem.F.type_list_append mt_append (pe_dget (hu_of hr) (pv 0) pe_str (fun _ _ => rfl)) (pa_cons (pe_op op_fdiv (pv 3) (pv 1)) pa_nil)))) pss_nil)
      (pss_one (ps_ret (pe_op op_mod (pv 3) (pv 1)))))) pss_nil)
      (pss_cons (ps_set (i := 4) nd rfl (Or.inl rfl) (pe_op op_mod (pe_op op_mul (pe_callTy call_int1 (by rfl) T.int (by decide +kernel) (pa_cons (pe_op op_add (pe_op op_add (pe_dget (hu_of hr) (pv 0) pe_str (fun _ _ => rfl)) (pe_op op_mul (pe_op op_mul pe_int (pv 2)) (pv 2))) pe_int) pa_nil)) pe_int) pe_int))
      (pss_cons (ps_set (i := 4) nd rfl (Or.inl rfl) (pe_op op_mod (pe_callTy call_int1 (by rfl) T.int (by decide +kernel) (pa_cons (pe_op op_add (pe_op op_add (pe_op op_mul (pv 4) (pv 4)) (pe_op op_mul pe_int (pv 2))) pe_int) pa_nil)) pe_int))
      (pss_one (ps_ret (pe_op op_mod (pe_op op_fdiv (pe_op op_mod (pe_callTy call_int1 (by rfl) T.int (by decide +kernel) (pa_cons (pe_op op_mul (pv 4) pe_int) pa_nil)) pe_int) pe_int) (pv 1))))))))), ?_⟩
    obtain ⟨cs, m, n, hd, hl, hm, hn, hcs⟩ := D
    have dl : d ≠ l := ne_of hd hl nofun
    -- the count goes on
    refine ⟨_, rfl, d, _, rfl, gDraws hd, _, _, rfl, rfl, _, rfl, _, rfl, d, _, rfl, pDraws (n + 1) hd, ?_⟩
    have hd1 : upd H d (.dK (dekO l m (n + 1))) d = some (.dK (dekO l m (n + 1))) := upd_same
    have hl1 : upd H d (.dK (dekO l m (n + 1))) l = some (.lst (cs.map V.int)) := by rw [upd_ne dl.symm]; exact hl
    have k1 : Kept d l H (upd H d (.dK (dekO l m (n + 1)))) := fun b o e h1 _ => by rw [upd_ne h1]; exact e
    generalize upd H d (.dK (dekO l m (n + 1))) = H1 at hd1 hl1 k1 ⊢
    have t1 : 0 < n + 1 := by omega
    have t2 : n + 1 ≤ 1000000 := by omega
    have t3 : n + 1 ≤ ((c + 1 : Nat) : Int) := by omega
    show tSeq _ _ _ [some (.ref d), some (.int k), some (.int (n + 1)), none, none] _
    generalize n + 1 = t at t1 t2 t3 hd1 ⊢
    refine ⟨_, rfl, d, _, rfl, gGreat hd1, ?_⟩
    refine ⟨Nat.zero_le _, fun p np => ?_⟩
    have hd2 : upd H1 p (.lst []) d = some (.dK (dekO l m t)) := by rw [upd_ne (ne_of_none hd1 np)]; exact hd1
    have hl2 : upd H1 p (.lst []) l = some (.lst (cs.map V.int)) := by rw [upd_ne (ne_of_none hl1 np)]; exact hl1
    have k2 : Kept d l H (upd H1 p (.lst [])) := k1.trans (.of (same_new np))
    refine ⟨.list (dI cs), .list [], .lst (SqL.of hl2) (dpInts cs), .lst (SqL.of upd_same) .nil, shI cs, rfl, ?_⟩
    generalize upd H1 p (.lst []) = H2 at hd2 hl2 k2 ⊢
    refine ⟨!cs.isEmpty, by rw [eqvI_nil], ?_⟩
    rcases List.eq_nil_or_concat cs with rfl | ⟨c0, z, rfl⟩
    · refine iteF ?_
      have tt : 60209 * t * t ≤ 60209 * 1000000 * 1000000 := Int.le_trans (Int.mul_le_mul_of_nonneg_left t2 (by omega)) (Int.mul_le_mul_of_nonneg_right (by omega) (by decide))
      have tt0 : 0 ≤ 60209 * t * t := Int.mul_nonneg (by omega) (by omega)
      refine ⟨_, rfl, d, _, rfl, gMixed hd2, _, rfl, _, _, rfl, rfl, .inl (by omega), _, rfl, _, _, rfl, rfl, .inl (by omega), _, _, rfl, rfl, _, _, rfl, rfl, .inl ⟨_, rfl, _, _, rfl, rfl, .inl (by omega), _, _, rfl, rfl, (by show (0 : Int) < _; decide), ?_⟩⟩
      have x0 := mod_lo (a := (m + 60209 * t * t + 37) * 40692) (b := 2147483647) (by decide)
      have x1 := mod_hi (a := (m + 60209 * t * t + 37) * 40692) (b := 2147483647) (by decide)
      generalize (m + 60209 * t * t + 37) * 40692 % 2147483647 = e at x0 x1 ⊢
      refine ⟨_, rfl, _, rfl, _, _, rfl, rfl, .inl (by omega), _, rfl, _, _, rfl, rfl, .inl (by omega), _, _, rfl, rfl, _, _, rfl, rfl, .inl ⟨_, rfl, _, _, rfl, rfl, (by show (0 : Int) < _; decide), ?_⟩⟩
      have y0 := mod_lo (a := e * e + 39373 * t + 19) (b := 2147483579) (by decide)
      have y1 := mod_hi (a := e * e + 39373 * t + 19) (b := 2147483579) (by decide)
      generalize (e * e + 39373 * t + 19) % 2147483579 = j at y0 y1 ⊢
      refine ⟨_, rfl, _, _, rfl, rfl, .inl (by omega), .inl ⟨_, rfl, _, _, rfl, rfl, (by show (0 : Int) < _; decide), _, _, rfl, rfl, ⟨by decide, by decide⟩, _, rfl, _, _, rfl, rfl, k0, ?_⟩⟩
      exact q _ _ (mod_lo k0) (mod_hi k0) ⟨[], m, t, hd2, hl2, hm, ⟨by omega, t3⟩, by simp⟩ k2
    · rw [List.concat_eq_append] at hl2 hcs ⊢
      refine ifT (by simp) ?_
      have hl3 : upd H2 l (.lst (c0.map V.int)) l = some (.lst (c0.map V.int)) := upd_same
      have hd3 : upd H2 l (.lst (c0.map V.int)) d = some (.dK (dekO l m t)) := by rw [upd_ne dl]; exact hd2
      have k3 : Kept d l H (upd H2 l (.lst (c0.map V.int))) := k2.trans fun b o e _ h2 => by rw [upd_ne h2]; exact e
      have el : ((c0 ++ [z]).map V.int).dropLast = c0.map V.int := by simp
      have ey : ((c0 ++ [z]).map V.int)[((c0 ++ [z]).map V.int).length - 1]? = some (.int z) := by simp
      refine ⟨_, rfl, d, _, rfl, gGreat hd2, .inl ⟨rfl, _, SqL.of hl2⟩, l, _, _, rfl, rfl, hl2, ey, .inl ⟨_, rfl, ?_⟩⟩
      rw [el]
      generalize upd H2 l (.lst (c0.map V.int)) = H3 at hd3 hl3 k3 ⊢
      have hc0 : c0.length ≤ 62 := by simp at hcs; omega
      refine ⟨fun σ' H' => σ' = [some (.ref d), some (.int k), some (.int t), some (.int z), none] ∧ Dek H' d l (c + 1) ∧ Kept d l H H', ?_, ?_⟩
      · refine ⟨_, rfl, _, rfl, _, _, rfl, rfl, _, rfl, ite2 (fun _ => ?_) (fun _ => ?_)⟩
        · refine ⟨_, rfl, d, _, rfl, gGreat hd3, .inl ⟨rfl, _, SqL.of hl3⟩, _, rfl, _, rfl, _, _, rfl, rfl, ⟨k0, k1'⟩, l, _, _, rfl, rfl, hl3, ?_, rfl, ?_, ?_⟩
          · rw [List.length_map]
            exact Nat.lt_of_lt_of_le (Nat.lt_succ_of_le hc0) (by decide)
          · exact ⟨c0 ++ [z / k], m, t, by rw [upd_ne dl]; exact hd3, by rw [upd_same, List.map_append]; rfl, hm, ⟨by omega, t3⟩, by simp; omega⟩
          · exact k3.trans fun b o e _ h2 => by rw [upd_ne h2]; exact e
        · exact ⟨rfl, ⟨c0, m, t, hd3, hl3, hm, ⟨by omega, t3⟩, by omega⟩, k3⟩
      · rintro σ' H' ⟨rfl, D', k'⟩
        exact ⟨_, rfl, _, rfl, _, _, rfl, rfl, k0, q _ _ (mod_lo k0) (mod_hi k0) D' k'⟩
end
end SG

namespace SG
open PySem PySem.Spec PyProof.Rows L2
section
variable {P : Program} {w : World} {K : PySem.W.Frag} {mg : Str → Option Value} {base : Heap}
theorem cut63 {ns : List Int} (h : ns.length ≤ 63) : cutV (ns.map V.int) none (some 63) = ns.map V.int := by
  unfold cutV
  rw [HT.sIx_none, show HT.sIx (ns.map V.int).length (ns.map V.int).length (some 63) = min 63 (ns.map V.int).length from HT.sIx_nat _ _ 63]
  rw [show min 63 (ns.map V.int).length = (ns.map V.int).length by rw [List.length_map]; omega]
  exact List.take_of_length_le (Nat.le_refl _)
def spDeck (K : PySem.W.Frag) : Sp := fun vs H Q _ => ∃ (a : Addr) (ns : List Int), vs = [.ref a] ∧ SqL K H a (ns.map V.int) ∧ ns.length ≤ 63 ∧
  ∀ (d l : Addr) (H2 : Hp), Dek H2 d l 0 → Same H H2 → Q (.ref d) H2
theorem ok_deck {f : Addr} {fd : FuncData} (F : Fun K "_law_deck" "_law_deck" s__law_deck f fd) (T : Txt mg) : GFn P w K mg base CX0 1 f fd ["_law_script"] (spDeck K) := by
  refine gfun_ok F sc__law_deck (fun vs H Q E h => ?_) (fun cdv A outer s H vs Q E hgu hr h => ?_)
  · obtain ⟨a, ns, rfl, _⟩ := h
    rfl
  · obtain ⟨a, ns, rfl, hS, hlen, q⟩ := h
    have nd := sc__law_deck.nd
    refine ⟨_, (pss_cons (ps_set (i := 1) nd rfl (Or.inl rfl) pe_int)
      (pss_cons (ps_for PassesOwn.never rfl (pi_list (pe_slice (k_slL (K := K)) (pv 0) po_none (po_some pe_int))) (pg_name (i := 2) nd rfl (Or.inl rfl))
        (pss_one (ps_set (i := 1) nd rfl (Or.inl rfl) (pe_op op_mod (pe_callTy call_int1 (by rfl) T.int (by decide +kernel) (pa_cons (pe_op op_add (pe_op op_add (pe_op op_mul (pv 1) pe_int) (pe_op op_mod (pe_callTy call_int1 (by rfl) T.int (by decide +kernel) (pa_cons (pv 2) pa_nil)) pe_int)) pe_int) pa_nil)) pe_int))))
      (pss_one (ps_ret (pe_disp (pps_cons pe_str (k_rev (K := K) (pe_lc (own := [("_law_cell", 2)]) rfl nd (pi_list (pe_slice (k_slL (K := K)) (pv 0) po_none (po_some pe_int))) (blkOk_by (N := N__law_deck) (sc := defScope s__law_deck) (by decide +kernel)) (fun _ _ _ _ _ => (pg_name (i := 2) nd rfl (Or.inl rfl))) (fun _ _ _ _ _ => (pts_one (pt_cmpR op_ge (pv 2) (pe_op op_pow pe_int pe_int) (nomark _)))) (fun _ _ _ _ _ => (pv 2)))) (pps_cons pe_str (pv 1) (pps_cons pe_str pe_int pps_nil))) (by rfl) (by rfl) (fun z => by cases z) (by decide)))))), ?_⟩
    refine ⟨_, rfl, 63, rfl, a, _, rfl, hS, fun p np => ?_⟩
    have s1 : Same H (upd H p (.lst (cutV (ns.map V.int) none (some 63)))) := same_new np
    rw [cut63 hlen] at s1 ⊢
    have hp1 : upd H p (.lst (ns.map V.int)) p = some (.lst (ns.map V.int)) := upd_same
    generalize upd H p (.lst (ns.map V.int)) = H1 at s1 hp1 ⊢
    refine ⟨p, rfl, ⟨_, SqL.of hp1⟩, for_it (walk_list (K := K) (a := p) (xs := ns.map V.int)) (fun i σ H2 => ∃ (m : Int) (y : Option V), σ = [some (.ref a), some (.int m), y] ∧ (0 ≤ m ∧ m < 2147483648) ∧ H2 = H1)
      ⟨1086554, none, rfl, ⟨by decide, by decide⟩, rfl⟩ (fun i σ H2 _ ⟨_, _, _, _, e⟩ => e ▸ SqL.of hp1) ?_ ?_⟩
    · rintro i y σ H2 H3 hi ⟨m, y3, rfl, hm, rfl⟩ ⟨rfl, hy⟩
      obtain ⟨z, rfl⟩ : ∃ z, y = V.int z := by
        rw [List.getElem?_map] at hy
        obtain ⟨z, _, e⟩ := Option.map_eq_some_iff.mp hy
        exact ⟨z, e.symm⟩
      have u0 := mod_lo (a := z) (b := 2147483629) (by decide)
      have u1 := mod_hi (a := z) (b := 2147483629) (by decide)
      refine ⟨_, rfl, _, _, rfl, rfl, .inl (by omega), _, rfl, .inl ⟨_, rfl, _, _, rfl, rfl, (by show (0 : Int) < _; decide), _, _, rfl, rfl, _, _, rfl, rfl, .inl ⟨_, rfl, _, _, rfl, rfl, (by show (0 : Int) < _; decide), ?_⟩⟩⟩
      exact ⟨_, _, rfl, ⟨mod_lo (by decide), Int.lt_trans (mod_hi (by decide)) (by decide)⟩, rfl⟩
    · rintro σ H2 ⟨m, y3, rfl, hm, rfl⟩
      refine fun d nd1 => ?_
      have t2 : Same H (upd H2 d (.dK [])) := s1.trans (same_new nd1)
      have hd3 : (upd H2 d (.dK [])) d = some (.dK []) := upd_same
      have nd0 : H d = none := s1.free nd1
      generalize upd H2 d (.dK []) = H3 at t2 hd3 ⊢
      refine ⟨_, rfl, 63, rfl, a, _, rfl, t2.seq hS, fun p2 np2 => ?_⟩
      rw [cut63 hlen]
      have hp4 : upd H3 p2 (.lst (ns.map V.int)) p2 = some (.lst (ns.map V.int)) := upd_same
      have t4 : Same H3 (upd H3 p2 (.lst (ns.map V.int))) := same_new np2
      generalize upd H3 p2 (.lst (ns.map V.int)) = H4 at t4 hp4 ⊢
      refine ⟨p2, rfl, ⟨_, SqL.of hp4⟩, fun D nD => ?_⟩
      refine lc_same (walk_list (K := K) (a := p2) (xs := ns.map V.int)) (by rw [List.length_map]; omega) nD (fun i acc _ => ∃ cs : List Int, acc = cs.map V.int) ⟨[], rfl⟩ (fun _ _ _ _ _ h => h) (fun H5 s5 => SqL.of (s5 _ _ hp4)) ?_ ?_
      · rintro i x acc H5 H6 hi s5 ⟨cs, rfl⟩ ⟨rfl, hx⟩ R N hR hN
        obtain ⟨z, rfl⟩ : ∃ z, x = V.int z := by
          rw [List.getElem?_map] at hx
          obtain ⟨z, _, e⟩ := Option.map_eq_some_iff.mp hx
          exact ⟨z, e.symm⟩
        refine ⟨wipe1 _ _ _, ?_⟩
        refine ⟨_, rfl, _, _, rfl, rfl, ⟨by decide, by decide, by decide⟩, _, _, rfl, rfl, _, rfl, ite2 (fun _ => ?_) (fun _ => ?_)⟩
        · exact ⟨_, rfl, hR _ _ (Same.refl _) ⟨cs ++ [z], by simp⟩⟩
        · exact hN _ (Same.refl _) ⟨cs, rfl⟩
      · rintro acc H5 s5 hl hD ⟨cs, rfl⟩
        rw [List.length_map, List.length_map] at hl
        refine ⟨D, _, rfl, SqL.of hD, fun r nr => ?_⟩
        have t6 : Same H3 (upd H5 r (.lst (cs.map V.int).reverse)) := (t4.trans s5).trans (same_new nr)
        have hr6 : (upd H5 r (.lst (cs.map V.int).reverse)) r = some (.lst (cs.reverse.map V.int)) := by rw [upd_same, List.map_reverse]
        have hd6 := t6 _ _ hd3
        have nr0 : r ≠ d := (ne_of_none ((t4.trans s5) _ _ hd3) nr).symm
        generalize upd H5 r (.lst (cs.map V.int).reverse) = H6 at t6 hr6 hd6 ⊢
        refine ⟨_, rfl, hd6, dekO r m 0, rfl, (by show 3 ≤ 15; decide), ?_⟩
        rw [dek_made]
        refine q d r _ ⟨cs.reverse, m, 0, upd_same, by rw [upd_ne nr0]; exact hr6, hm, ⟨by decide, by decide⟩, by rw [List.length_reverse]; omega⟩ fun b o e => ?_
        rw [upd_ne (ne_of_none e nd0)]
        exact t6 _ _ (t2 _ _ e)
/-- one of a list's -/
def spPick (K : PySem.W.Frag) : Sp := fun vs H Q _ => ∃ (d l : Addr) (c : Nat) (a : Addr) (xs : List V), vs = [.ref d, .ref a] ∧ Dek H d l c ∧ c < 1000000 ∧ SqL K H a xs ∧ a ≠ l ∧ xs ≠ [] ∧ xs.length ≤ 1000 ∧
  ∀ (x : V) (H2 : Hp), x ∈ xs → Dek H2 d l (c + 1) → Kept d l H H2 → Q x H2
theorem ok_pick {f f1 : Addr} {fd fd1 : FuncData} (F : Fun K "_law_pick" "_law_pick" s__law_pick f fd) (F__law_draw : Fun K "_law_draw" "_law_draw" s__law_draw f1 fd1) (m__law_draw : mg "_law_draw" = some (.ref f1)) (b__law_draw : Binds K fd1 ["_law_deck_here", "_law_many"] []) (T : Txt mg) : GFn P w K mg base CX0 2 f fd ["_law_deck_here", "_law_some"] (spPick K) := by
  have G__law_draw : GFn P w K mg base CX0 1 f1 fd1 ["_law_deck_here", "_law_many"] spDraw := ok_draw F__law_draw T
  refine gfun_ok F sc__law_pick (fun vs H Q E h => ?_) (fun cdv A outer s H vs Q E hgu hr h => ?_)
  · obtain ⟨d, l, c, a, xs, rfl, _⟩ := h
    rfl
  · obtain ⟨d, l, c, a, xs, rfl, D, hc, hS, al, ne, hlen, q⟩ := h
    have nd := sc__law_pick.nd
    refine ⟨_, (pss_one (ps_ret (pe_ix (k_ixL (K := K)) (pv 1) (pe_g G__law_draw hgu (hr.mono (by decide)) (by rfl) m__law_draw F__law_draw.kp b__law_draw .nil pass0 (pa_cons (pv 0) (pa_cons (pe_callB (k_len (K := K)) (by rfl) T.len (by decide +kernel) (pa_cons (pv 1) pa_nil)) pa_nil))) (fun _ _ => rfl)))), ?_⟩
    have pos : 0 < xs.length := List.length_pos_iff.mpr ne
    refine ⟨_, rfl, _, rfl, _, rfl, a, _, rfl, .inl hS, d, l, c, _, rfl, D, hc, by omega, by omega, fun r H2 r0 r1 D2 k2 => ?_⟩
    have hS2 := k2.lstG D al hS
    obtain ⟨i, rfl⟩ : ∃ i : Nat, r = (i : Int) := ⟨r.toNat, by omega⟩
    have hi : i < xs.length := by omega
    exact ⟨a, xs, i, xs[i], rfl, rfl, hS2, atI_nat (List.getElem?_eq_getElem hi), q _ _ (List.getElem_mem hi) D2 k2⟩
end
end SG

namespace SG
open PySem PySem.Spec PyProof.Rows L2
section
variable {P : Program} {w : World} {K : PySem.W.Frag} {mg : Str → Option Value} {base : Heap}
section
variable {d l : Addr} {c n b m t : Nat} {σ : L2.St} {H : Hp}
theorem asg_wx {ta : TA} {N i : Nat} {ts : TS} {De : Ends} (lit : WxA K d l c n b m t σ H ta N) (dk : Dek H d l c) (hN : N ≤ 1000)
    (q : ∀ (p : Addr) (xs : List V) (H2 : Hp), Same H H2 → Dek H2 d l c → p ≠ d → p ≠ l → H2 p = some (.lst xs) → (∀ x ∈ xs, Itm K d l n b m t H2 x) → xs.length = N → ts De (σ.set i (some (.ref p))) H2) : tSeq (tAsg (tLst ta) (gName i)) ts De σ H :=
  lit H _ (Same.refl H) dk fun xs H1 s1 dk1 it hl => ⟨Nat.le_of_lt (small1000 (by omega)), fun p np => q p xs _ (s1.trans (same_new np)) (dk1.upd np) (dk1.ne np).1 (dk1.ne np).2 upd_same (fun x hx => (it x hx).same (same_new np)) hl⟩
theorem add_wx {ta : TA} {N i : Nat} {p : Addr} {xs : List V} {De : Ends} (e : σ[i]? = some (some (.ref p))) (hp : H p = some (.lst xs)) (it0 : ∀ x ∈ xs, Itm K d l n b m t H x) (lit : WxA K d l c n b m t σ H ta N) (dk : Dek H d l c) (hN : xs.length + 2 * N ≤ 1000)
    (q : ∀ (p2 : Addr) (ys : List V) (H2 : Hp), Same H H2 → Dek H2 d l c → p2 ≠ d → p2 ≠ l → H2 p2 = some (.lst ys) → (∀ y ∈ ys, Itm K d l n b m t H2 y) → ys.length = xs.length + 2 * N → De.nx (σ.set i (some (.ref p2))) H2) :
    tAsg (tOp rCat (tVar i) (tOp rRep (tLst ta) (tC (V.int 2)))) (gName i) De σ H := by
  refine ⟨_, e, lit H _ (Same.refl H) dk fun zs H1 s1 dk1 it hl => ⟨Nat.le_of_lt (small1000 (by omega)), fun p1 np1 => ?_⟩⟩
  have it1 : ∀ x ∈ zs, Itm K d l n b m t (upd H1 p1 (.lst zs)) x := fun x hx => (it x hx).same (same_new np1)
  have dk2 := dk1.upd (o := .lst zs) np1
  have s2 : Same H (upd H1 p1 (.lst zs)) := s1.trans (same_new np1)
  have h1 : upd H1 p1 (.lst zs) p1 = some (.lst zs) := upd_same
  refine ⟨p1, 2, zs, rfl, rfl, h1, by decide, by decide, ?_, fun p3 np3 => ?_⟩
  · show zs.length * 2 ≤ sizeLine
    exact Nat.le_of_lt (small1000 (by omega))
  · rw [show (List.replicate (Int.toNat 2) zs).flatten = zs ++ (zs ++ []) from rfl, List.append_nil]
    have s3 : Same (upd H1 p1 (.lst zs)) (upd (upd H1 p1 (.lst zs)) p3 (.lst (zs ++ zs))) := same_new np3
    refine ⟨p, p3, xs, zs ++ zs, rfl, rfl, (s2.trans s3) _ _ hp, upd_same, ?_, fun p4 np4 => ?_⟩
    · rw [List.length_append]
      exact Nat.le_of_lt (small1000 (by omega))
    · have s4 := s3.trans (same_new (o := .lst (xs ++ (zs ++ zs))) np4)
      have dk4 := (dk2.upd (o := .lst (zs ++ zs)) np3)
      refine q p4 _ _ (s2.trans s4) (dk4.upd np4) (dk4.ne np4).1 (dk4.ne np4).2 upd_same (fun y hy => ?_) (by simp [hl]; omega)
      rcases List.mem_append.mp hy with h | h
      · exact (it0 y h).same (s2.trans s4)
      · refine (it1 y ?_).same s4
        rcases List.mem_append.mp h with h | h <;> exact h
end
/-- what is put in the place of something -/
def spOdd (K : PySem.W.Frag) : Sp := fun vs H Q _ => ∃ (d l : Addr) (c : Nat) (x : V) (n b m t : Nat), vs = [.ref d, x] ∧ Dek H d l c ∧ c < 1000000 ∧ Itm K d l n b m t H x ∧ 10 ^ 39 ≤ m ∧ m ≤ 10 ^ 40 ∧ b ≤ 400 ∧
  ∀ (y : V) (H2 : Hp), Itm K d l (n + 1) (2 * b + 200) (m + 1) (2 * t + 100) H2 y → Dek H2 d l (c + 1) → Kept d l H H2 → Q y H2
theorem asc_lit (z : Str) (h : (z.cps.toList.all fun c => decide (c < 128)) = true) : Asc z := fun c hc => of_decide_eq_true (List.all_eq_true.mp h c hc)
theorem Sx.lit {n b m t : Nat} (z : Str) (h : (z.cps.toList.all fun c => decide (c < 128)) = true) (h1 : z.length ≤ 3) : Sx n (2 * b + 200) m (2 * t + 100) (.str z) := Sx.str (asc_lit z h) (by omega) (by omega)
theorem one_le {x : PyData} : [x].length ≤ 1000 := by show 1 ≤ 1000; decide
theorem len_a : (Str.ofString "a").length = 1 := by decide +kernel
theorem len_e : (Str.ofString "").length = 0 := by decide +kernel
theorem isn_num {D : PyData} (h : isIntLike D = true) {K : PySem.W.Frag} {d l : Addr} {H : Hp} {x : V} (hx : Dy K d l H x D) : NumV x D := by
  cases hx with
  | int i => exact .inl ⟨i, rfl, rfl⟩
  | bl k => exact .inr ⟨k, rfl, rfl⟩
  | non => cases h
  | str _ => cases h
  | lst _ _ _ _ => cases h
  | tup _ _ => cases h
  | dct _ _ _ => cases h
theorem num_le {n b m t : Nat} {D : PyData} (s : Sx n b m t D) (h1 : 1 ≤ m) : (num D).natAbs ≤ m := by
  cases D with
  | int i =>
    have := s.fit
    simp only [fitD, decide_eq_true_eq] at this
    exact this
  | bool k => cases k <;> simp [num] <;> omega
  | _ => simp [num]
theorem num_len2 {D : PyData} (h : (num D).natAbs ≤ 10 ^ 40) : (numT D).length ≤ 62 := by
  cases D with
  | int i =>
    have e := int_text_length_le10 (a := i) (k := 61) (by decide) (Nat.lt_of_le_of_lt h (by decide +kernel))
    show (Str.ofString (toString i)).length ≤ 62
    rw [PySem.ofString_length]
    exact e
  | bool k => cases k <;> decide +kernel
  | _ =>
    show ("" : Str).length ≤ 62
    decide +kernel
theorem WxA.later {d l : Addr} {c n b m t : Nat} {σ : L2.St} {H H2 : Hp} {ta : TA} {N : Nat} (a : WxA K d l c n b m t σ H ta N) (s : Same H H2) : WxA K d l c n b m t σ H2 ta N := fun H3 Q s3 => a H3 Q (s.trans s3)
/-- while the list of things grows -/
def OddSt (K : PySem.W.Frag) (d l : Addr) (c n b m t : Nat) (x : V) (H : Hp) (M : Nat) (σ : L2.St) (H2 : Hp) : Prop := ∃ (p : Addr) (xs : List V), σ = [some (.ref d), some x, some (.ref p)] ∧ Same H H2 ∧ Dek H2 d l c ∧ p ≠ d ∧ p ≠ l ∧ H2 p = some (.lst xs) ∧ (∀ y ∈ xs, Itm K d l n b m t H2 y) ∧ xs ≠ [] ∧ xs.length ≤ M
theorem odd_if {d l : Addr} {c n b m t M N : Nat} {x : V} {D : PyData} {H H2 : Hp} {σ : L2.St} {ta : TA} {rest : TS} {De : Ends} {Ty : String} {k : Bool} (hx : Dy K d l H x D) (hT : PySem.W.kitOne K (.type (kindOf D)) (.type Ty) = some k)
    (lit : k = true → ∀ p : Addr, WxA K d l c n b m t [some (.ref d), some x, some (.ref p)] H ta N) (hM : M + 2 * N ≤ 1000) (h : OddSt K d l c n b m t x H M σ H2) (q : ∀ σ3 H3, OddSt K d l c n b m t x H (M + 2 * N) σ3 H3 → rest De σ3 H3) :
    C8.tCut (tIfS (tB (tCB (rIsi K) (tCons (tVar 1) (tCons (tC (V.ty Ty)) tNil)))) (tAsg (tOp rCat (tVar 2) (tOp rRep (tLst ta) (tC (V.int 2)))) (gName 2)) tNext) rest De σ H2 := by
  obtain ⟨p, xs, rfl, s2, dk2, pd, pl, hp, it, ne, hl⟩ := h
  refine ⟨fun σ3 H3 => OddSt K d l c n b m t x H (M + 2 * N) σ3 H3, ?_, fun σ3 H3 h3 => q σ3 H3 h3⟩
  refine ⟨_, rfl, _, _, _, _, _, rfl, .ty Ty, dx_ty (dy_dx (dy_same s2 hx)), hT, _, rfl, ?_⟩
  cases k with
  | false => exact ifF rfl ⟨p, xs, rfl, s2, dk2, pd, pl, hp, it, ne, by omega⟩
  | true =>
    refine ifT rfl ?_
    refine add_wx (c := c) (n := n) (b := b) (m := m) (t := t) (xs := xs) rfl hp it ((lit rfl p).later s2) dk2 (by omega) fun p2 ys H3 s3 dk3 n1 n2 hp2 it2 hl2 => ?_
    exact ⟨p2, ys, rfl, s2.trans s3, dk3, n1, n2, hp2, it2, fun z => ne (List.eq_nil_of_length_eq_zero (by rw [z] at hl2; simp at hl2; omega)), by omega⟩
theorem ok_odd {f f1 f2 : Addr} {fd fd1 fd2 : FuncData} (F : Fun K "_law_odd" "_law_odd" s__law_odd f fd) (F__law_draw : Fun K "_law_draw" "_law_draw" s__law_draw f1 fd1) (m__law_draw : mg "_law_draw" = some (.ref f1)) (b__law_draw : Binds K fd1 ["_law_deck_here", "_law_many"] [])
    (F__law_pick : Fun K "_law_pick" "_law_pick" s__law_pick f2 fd2) (m__law_pick : mg "_law_pick" = some (.ref f2)) (b__law_pick : Binds K fd2 ["_law_deck_here", "_law_some"] []) (T : Txt mg) : GFn P w K mg base CX0 3 f fd ["_law_deck_here", "_law_it"] (spOdd K) := by
  have G__law_pick : GFn P w K mg base CX0 2 f2 fd2 ["_law_deck_here", "_law_some"] (spPick K) := ok_pick F__law_pick F__law_draw m__law_draw b__law_draw T
  refine gfun_ok F sc__law_odd (fun vs H Q E h => ?_) (fun cdv A outer s H vs Q E hgu hr h => ?_)
  · obtain ⟨d, l, c, x, n, b, m, t, rfl, _⟩ := h
    rfl
  · obtain ⟨d, l, c, x, n, b, m, t, rfl, Dk, hc, ⟨D, hx, sx⟩, m0, m1, hb, q⟩ := h
    have nd := sc__law_odd.nd
    refine ⟨_, (pss_cons (ps_set (i := 2) nd rfl (Or.inl rfl) (pe_lst (pa_cons pe_non (pa_cons pe_bl (pa_cons pe_bl (pa_cons pe_int (pa_cons pe_int (pa_cons (pe_un un_neg pe_int) (pa_cons (pe_op op_pow pe_int pe_int) (pa_cons pe_str (pa_cons pe_str (pa_cons pe_str (pa_cons pe_str (pa_cons pe_str (pa_cons pe_str (pa_cons (pe_tup pa_nil) (pa_cons (pe_tup (pa_cons pe_str pa_nil)) (pa_cons (pe_tup (pa_cons pe_str pa_nil)) (pa_cons (pe_tup (pa_cons pe_int pa_nil)) (pa_cons (pe_lst pa_nil) (pa_cons pe_dnewK pa_nil)))))))))))))))))))))
      (C8.pss_cut (ps_if (pt_val (pe_callB (k_isi (K := K)) (by rfl) T.isinstance (by decide +kernel) (pa_cons (pv 1) (pa_cons (pe_bltn (v := .ty "tuple") (by rfl) T.tuple (by decide +kernel) rfl) pa_nil)))) (pss_one (ps_set (i := 2) nd rfl (Or.inl rfl) (pe_op op_cat (pv 2) (pe_op op_rep (pe_lst (pa_cons (pe_callTy (k_listOf (K := K)) (by rfl) T.list (by decide +kernel) (pa_cons (pv 1) pa_nil)) (pa_cons (pe_slice (k_slU (K := K)) (pv 1) po_none (po_some (pe_un un_neg pe_int))) (pa_cons (pe_slice (k_slU (K := K)) (pv 1) (po_some pe_int) po_none) (pa_cons (pe_op (k_catU (K := K)) (pv 1) (pe_slice (k_slU (K := K)) (pv 1) po_none (po_some pe_int))) (pa_cons (pe_revX (K := K) (pv 1)) (pa_cons (pe_tup (pa_cons (pv 1) pa_nil)) (pa_cons (pe_op (k_catU (K := K)) (pv 1) (pe_tup (pa_cons pe_int pa_nil))) (pa_cons (pe_op (k_catU (K := K)) (pv 1) (pe_tup (pa_cons pe_str pa_nil))) pa_nil))))))))) pe_int)))) pss_nil)
      (C8.pss_cut (ps_if (pt_val (pe_callB (k_isi (K := K)) (by rfl) T.isinstance (by decide +kernel) (pa_cons (pv 1) (pa_cons (pe_bltn (v := .ty "str") (by rfl) T.str (by decide +kernel) rfl) pa_nil)))) (pss_one (ps_set (i := 2) nd rfl (Or.inl rfl) (pe_op op_cat (pv 2) (pe_op op_rep (pe_lst (pa_cons (pe_op op_add_str (pv 1) pe_str) (pa_cons (pe_slice sl_str (pv 1) (po_some pe_int) po_none) (pa_cons (pe_op op_twice (pv 1) pe_int) (pa_cons (pe_m0 PySem.F.slot_str_upper PySem.F.type_str_upper mt_upper (pv 1)) (pa_cons (pe_tup (pa_cons (pv 1) pa_nil)) (pa_cons (pe_lst (pa_cons (pv 1) pa_nil)) (pa_cons (pe_revX (K := K) (pv 1)) pa_nil)))))))) pe_int)))) pss_nil)
      (C8.pss_cut (ps_if (pt_val (pe_callB (k_isi (K := K)) (by rfl) T.isinstance (by decide +kernel) (pa_cons (pv 1) (pa_cons (pe_bltn (v := .ty "int") (by rfl) T.int (by decide +kernel) rfl) pa_nil)))) (pss_one (ps_set (i := 2) nd rfl (Or.inl rfl) (pe_op op_cat (pv 2) (pe_op op_rep (pe_lst (pa_cons (pe_op op_addN (pv 1) pe_int) (pa_cons (pe_op op_subN (pv 1) pe_int) (pa_cons (pe_cmpR op_eqN (pv 1) pe_int (nomark _)) (pa_cons (pe_callTy call_strN (by rfl) T.str (by decide +kernel) (pa_cons (pv 1) pa_nil)) (pa_cons (pe_tup (pa_cons (pv 1) pa_nil)) pa_nil)))))) pe_int)))) pss_nil)
      (pss_one (ps_ret (pe_g G__law_pick hgu (hr.mono (by decide)) (by rfl) m__law_pick F__law_pick.kp b__law_pick .nil pass0 (pa_cons (pv 0) (pa_cons (pv 2) pa_nil))))))))), ?_⟩
    have lit0 : WxA K d l c (n + 1) (2 * b + 200) (m + 1) (2 * t + 100) [some (.ref d), some x, none] H (tCons (tC V.non) (tCons (tC (V.bl true)) (tCons (tC (V.bl false)) (tCons (tC (V.int 0)) (tCons (tC (V.int 1)) (tCons (tUn (rU fun i => V.int (-i)) (tC (V.int 1))) (tCons (tOp (rI CPow fun i j => V.int (i ^ j.toNat)) (tC (V.int 10)) (tC (V.int 39)))
        (tCons (tC (V.str (Str.ofString ""))) (tCons (tC (V.str (Str.ofString "a"))) (tCons (tC (V.str (Str.ofString "b"))) (tCons (tC (V.str (Str.ofString "ab"))) (tCons (tC (V.str (Str.ofString "one"))) (tCons (tC (V.str (Str.ofString "two"))) (tCons (tTup tNil) (tCons (tTup (tCons (tC (V.str (Str.ofString "a"))) tNil))
        (tCons (tTup (tCons (tC (V.str (Str.ofString ""))) tNil)) (tCons (tTup (tCons (tC (V.int 0)) tNil)) (tCons (tLst tNil) (tCons tDNewK tNil))))))))))))))))))) 19 := by
      refine .cons (WdE.non.to Sx.none) (.cons (WdE.bl.to (Sx.bool _)) (.cons (WdE.bl.to (Sx.bool _)) (.cons (WdE.int.to (Sx.int (by simp))) (.cons (WdE.int.to (Sx.int (by simp))) (.cons (WdE.neg.to (Sx.int (by simp))) (.cons ?_
        (.cons (WdE.str.to (Sx.lit _ (by decide +kernel) (by decide +kernel))) (.cons (WdE.str.to (Sx.lit _ (by decide +kernel) (by decide +kernel))) (.cons (WdE.str.to (Sx.lit _ (by decide +kernel) (by decide +kernel))) (.cons (WdE.str.to (Sx.lit _ (by decide +kernel) (by decide +kernel)))
        (.cons (WdE.str.to (Sx.lit _ (by decide +kernel) (by decide +kernel))) (.cons (WdE.str.to (Sx.lit _ (by decide +kernel) (by decide +kernel))) (.cons ?_ (.cons ?_ (.cons ?_ (.cons ?_ (.cons ?_ (.cons (WdE.dct.to (Sx.dict0 (by omega))) .nil))))))))))))))))))
      · exact fun H1 Q _ dk k => ⟨_, _, rfl, rfl, ⟨by decide, by decide, by decide⟩, k _ H1 (Same.refl _) dk ⟨.int (10 ^ 39), .int _, Sx.int (by omega)⟩⟩
      · exact (WdE.tup .nil (by decide)).to (SxA.tuple .nil)
      · exact (WdE.tup (.cons .str .nil) (by decide)).to ((SxA.tuple (SxA.one (n := n) (b := 3) (Sx.str (asc_lit _ (by decide +kernel)) (by rw [len_a]; omega) (by decide +kernel)))).mono (Nat.le_refl _) (by omega) (Nat.le_refl _) (Nat.le_refl _))
      · exact (WdE.tup (.cons .str .nil) (by decide)).to ((SxA.tuple (SxA.one (n := n) (b := 3) (Sx.str (asc_lit _ (by decide +kernel)) (by rw [len_e]; omega) (by decide +kernel)))).mono (Nat.le_refl _) (by omega) (Nat.le_refl _) (Nat.le_refl _))
      · exact (WdE.tup (.cons .int .nil) (by decide)).to ((SxA.tuple (SxA.one (n := n) (b := 3) (Sx.int (by simp)))).mono (Nat.le_refl _) (by omega) (Nat.le_refl _) (Nat.le_refl _))
      · exact (WdE.lst .nil (by decide)).to (SxA.list .nil)
    refine asg_wx lit0 Dk (by decide) fun p0 xs0 H1 s1 dk1 _ _ hp0 it0 hl0 => ?_
    have lt : isTup D = true → ∀ p : Addr, WxA K d l c (n + 1) (2 * b + 200) (m + 1) (2 * t + 100) [some (.ref d), some x, some (.ref p)] H (tCons (tCB (rListOf K) (tCons (tVar 1) tNil)) (tCons (tSl (rSlU K) (tVar 1) tNoPart (tPart (tUn (rU fun i => V.int (-i)) (tC (V.int 1)))))
        (tCons (tSl (rSlU K) (tVar 1) (tPart (tC (V.int 1))) tNoPart) (tCons (tOp (rCatU K) (tVar 1) (tSl (rSlU K) (tVar 1) tNoPart (tPart (tC (V.int 1))))) (tCons (tRevX K (tVar 1)) (tCons (tTup (tCons (tVar 1) tNil)) (tCons (tOp (rCatU K) (tVar 1) (tTup (tCons (tC (V.int 0)) tNil)))
        (tCons (tOp (rCatU K) (tVar 1) (tTup (tCons (tC (V.str (Str.ofString "b"))) tNil))) tNil)))))))) 8 := by
      intro ht p
      obtain ⟨ds, rfl⟩ : ∃ ds, D = .tuple ds := by cases D <;> simp [isTup] at ht ⊢
      obtain ⟨n1, sa⟩ := sx.items
      have dl := bulkA_len ds
      have sb := sa.bulk
      have v : WdE K d l c [some (.ref d), some x, some (.ref p)] H (tVar 1) (.tuple ds) := .v rfl hx
      have e1 : n - 1 + 1 = n := by omega
      have up : ∀ {D2 : PyData} {b2 : Nat}, Sx (n - 1 + 1) b2 m t D2 → b2 ≤ 2 * b + 200 → Sx (n + 1) (2 * b + 200) (m + 1) (2 * t + 100) D2 := fun h h2 => h.mono (by omega) h2 (by omega) (by omega)
      have cl : ∀ o1 o2, (cutD ds o1 o2).length ≤ ds.length := fun o1 o2 => by unfold cutD; rw [List.length_take, List.length_drop]; omega
      refine .cons (v.listOf.to (up sa.list (by omega))) (.cons ((v.slc .no .neg).to (up (sa.cutD _ _).tuple (by omega))) (.cons ((v.slc .int .no).to (up (sa.cutD _ _).tuple (by omega))) (.cons ((v.cat (v.slc .no .int) ?_).to (up (sa.app (sa.cutD _ _)).tuple (by omega)))
        (.cons (v.rev.to (up sa.rev.tuple (by omega))) (.cons ((WdE.tup (.cons v .nil) one_le).to ((SxA.tuple (SxA.one sx)).mono (Nat.le_refl _) (by omega) (by omega) (by omega)))
        (.cons ((v.cat (.tup (.cons .int .nil) (by decide)) ?_).to (up (sa.app (SxA.one (b := 0) (Sx.int (by simp)))).tuple (by omega))) (.cons ((v.cat (.tup (.cons .str .nil) (by decide)) ?_).to ?_) .nil)))))))
      · have := cl none (some 1)
        omega
      · simp only [List.length_singleton]
        omega
      · simp only [List.length_singleton]
        omega
      · refine (SxA.tuple ((sa.mono (Nat.le_refl _) (Nat.le_refl _) (Nat.le_refl _) (show t ≤ 2 * t + 100 by omega)).app (SxA.one (b := 1) (Sx.str (asc_lit _ (by decide +kernel)) ?_ (by decide +kernel))))).mono (by omega) (by omega) (by omega) (Nat.le_refl _)
        have : (Str.ofString "b").length = 1 := by decide +kernel
        omega
    have ls : isStrD D = true → ∀ p : Addr, WxA K d l c (n + 1) (2 * b + 200) (m + 1) (2 * t + 100) [some (.ref d), some x, some (.ref p)] H (tCons (tOp (fun x y H Q => ∃ i j, x = V.str i ∧ y = V.str j ∧ i.length + j.length ≤ sizeLine ∧ Q (V.str (i ++ j)) H) (tVar 1) (tC (V.str (Str.ofString "a"))))
        (tCons (tSl rSlS (tVar 1) (tPart (tC (V.int 1))) tNoPart) (tCons (tOp rTwice (tVar 1) (tC (V.int 2))) (tCons (tM0 (fun x xs H Q => ∃ a, x = V.str a ∧ xs = [] ∧ a.length ≤ 5592405 ∧ Q (V.str (Txt.upper a)) H) (tVar 1)) (tCons (tTup (tCons (tVar 1) tNil)) (tCons (tLst (tCons (tVar 1) tNil)) (tCons (tRevX K (tVar 1)) tNil))))))) 7 := by
      intro ht p
      obtain ⟨z, rfl⟩ : ∃ z, D = .str z := by cases D <;> simp [isStrD] at ht ⊢
      obtain rfl : x = .str z := by cases hx; rfl
      obtain ⟨za, zt, zb⟩ := sx.asc
      have v : WdE K d l c [some (.ref d), some (.str z), some (.ref p)] H (tVar 1) (.str z) := .v rfl hx
      have up : Sx (n + 1) (2 * b + 200) (m + 1) (2 * t + 100) (.str z) := Sx.str za (by omega) (by omega)
      refine .cons (fun H1 Q1 _ dk k => ⟨_, rfl, _, _, rfl, rfl, ?_, k _ H1 (Same.refl _) dk ⟨_, .str _, Sx.str (asc_cat za (asc_lit _ (by decide +kernel))) ?_ ?_⟩⟩) (.cons (fun H1 Q1 _ dk k => ⟨_, rfl, 1, rfl, z, rfl, ?_, k _ H1 (Same.refl _) dk ⟨_, .str _, Sx.str (cut_mem _ _ za).1 ?_ ?_⟩⟩)
        (.cons (fun H1 Q1 _ dk k => ⟨_, rfl, z, rfl, rfl, by omega, fun z2 hz2 => k _ H1 (Same.refl _) dk ⟨_, .str _, ?_⟩⟩) (.cons (fun H1 Q1 _ dk k => ⟨_, rfl, ⟨_, rfl⟩, z, rfl, rfl, by omega, k _ H1 (Same.refl _) dk ⟨_, .str _, Sx.str (asc_upper za).1 ?_ ?_⟩⟩)
        (.cons ((WdE.tup (.cons v .nil) one_le).to ?_) (.cons ((WdE.lst (.cons v .nil) one_le).to ?_) (.cons (fun H1 Q1 _ dk k => ⟨_, rfl, .inr ⟨z, rfl, by omega, fun z2 hz2 => k _ H1 (Same.refl _) dk ⟨_, .str _, ?_⟩⟩⟩) .nil))))))
      · rw [len_a]
        exact Nat.le_of_lt (small1000 (by omega))
      · rw [len_cat, len_a]
        omega
      · rw [len_cat, len_a]
        omega
      · exact Nat.le_of_lt (small1000 (by omega))
      · have := (cut_mem (some 1) none za).2
        omega
      · have := (cut_mem (some 1) none za).2
        omega
      · have e : z2.length = z.length + z.length := by
          have := congrArg List.length hz2
          rw [List.length_append] at this
          simpa [Str.length] using this
        refine Sx.str (fun c hc => ?_) (by omega) (by omega)
        rw [hz2] at hc
        rcases List.mem_append.mp hc with h | h <;> exact za c h
      · rw [(asc_upper za).2]
        omega
      · rw [(asc_upper za).2]
        omega
      · exact (SxA.tuple (SxA.one sx)).mono (Nat.le_refl _) (by omega) (by omega) (by omega)
      · exact (SxA.list (SxA.one sx)).mono (Nat.le_refl _) (by omega) (by omega) (by omega)
      · have e : z2.length = z.length := by
          have := congrArg List.length hz2
          rw [List.length_reverse] at this
          simpa [Str.length] using this
        refine Sx.str (fun c hc => ?_) (by omega) (by omega)
        rw [hz2] at hc
        exact za c (List.mem_reverse.mp hc)
    have li : isIntLike D = true → ∀ p : Addr, WxA K d l c (n + 1) (2 * b + 200) (m + 1) (2 * t + 100) [some (.ref d), some x, some (.ref p)] H (tCons (tOp rAddN (tVar 1) (tC (V.int 1))) (tCons (tOp rSubN (tVar 1) (tC (V.int 1))) (tCons (tOp rEqN (tVar 1) (tC (V.int 1))) (tCons (tCB rStrN (tCons (tVar 1) tNil)) (tCons (tTup (tCons (tVar 1) tNil)) tNil))))) 5 := by
      intro ht p
      have hv := isn_num ht hx
      have nl := num_le sx (by omega)
      have v : WdE K d l c [some (.ref d), some x, some (.ref p)] H (tVar 1) D := .v rfl hx
      refine .cons (fun H1 Q1 _ dk k => ⟨_, rfl, D, 1, hv, rfl, k _ H1 (Same.refl _) dk ⟨_, .int _, Sx.int (by omega)⟩⟩) (.cons (fun H1 Q1 _ dk k => ⟨_, rfl, D, 1, hv, rfl, k _ H1 (Same.refl _) dk ⟨_, .int _, Sx.int (by omega)⟩⟩)
        (.cons (fun H1 Q1 _ dk k => ⟨_, rfl, D, 1, hv, rfl, k _ H1 (Same.refl _) dk ⟨_, .bl _, Sx.bool _⟩⟩) (.cons (fun H1 Q1 _ dk k => ⟨_, rfl, x, D, rfl, hv, ?_, k _ H1 (Same.refl _) dk ⟨_, .str _, Sx.str (num_asc D) ?_ ?_⟩⟩) (.cons ((WdE.tup (.cons v .nil) one_le).to ?_) .nil))))
      · have h1 : (num D).natAbs < 2 ^ 200 := Nat.lt_of_le_of_lt (Nat.le_trans nl m1) (by decide +kernel)
        exact Nat.lt_of_lt_of_le (PySem.Flt.log2_lt_of (by decide) h1) (by decide)
      · have := num_len2 (D := D) (Nat.le_trans nl m1)
        omega
      · have := num_len2 (D := D) (Nat.le_trans nl m1)
        omega
      · exact (SxA.tuple (SxA.one sx)).mono (Nat.le_refl _) (by omega) (by omega) (by omega)
    have ne0 : xs0 ≠ [] := fun z => by rw [z] at hl0; cases hl0
    refine odd_if (M := 19) hx (isx_tuple D) lt (by decide) ⟨p0, xs0, rfl, s1, dk1, by assumption, by assumption, hp0, it0, ne0, by omega⟩ fun σ2 H2 st2 => ?_
    refine odd_if hx (isx_str D) ls (by decide) st2 fun σ3 H3 st3 => ?_
    refine odd_if hx (isx_int D) li (by decide) st3 fun σ4 H4 st4 => ?_
    obtain ⟨p, xs, rfl, s4, dk4, pd, pl, hp, it, ne, hl⟩ := st4
    refine ⟨_, rfl, _, rfl, d, l, c, p, xs, rfl, dk4, hc, SqL.of hp, pl, ne, by omega, fun y H5 hy dk5 k5 => ?_⟩
    exact q y H5 ((it y hy).kept dk4 k5) dk5 ((Kept.of s4).trans k5)
end
end SG

namespace SG
open PySem PySem.Spec PyProof.Rows L2
section
variable {P : Program} {w : World} {K : PySem.W.Frag} {mg : Str → Option Value} {base : Heap}
theorem cut_take (xs : List V) (n : Nat) : cutV xs none (some (n : Int)) = xs.take n := by
  unfold cutV
  rw [HT.sIx_none, HT.sIx_nat, List.drop_zero]
  rcases Nat.le_total n xs.length with h | h
  · rw [Nat.min_eq_left h]
    rfl
  · rw [Nat.min_eq_right h, List.take_of_length_le h]
    exact List.take_of_length_le (Nat.le_refl _)
theorem cut_drop (xs : List V) (n : Nat) : cutV xs (some (n : Int)) none = xs.drop n := by
  unfold cutV
  rw [HT.sIx_none, HT.sIx_nat]
  rcases Nat.le_total n xs.length with h | h
  · rw [Nat.min_eq_left h]
    exact List.take_of_length_le (by rw [List.length_drop]; omega)
  · rw [Nat.min_eq_right h, List.drop_length, List.drop_eq_nil_of_le h, List.take_nil]
theorem bulk_at {ds : List PyData} {i : Nat} {D : PyData} (h : ds[i]? = some D) : PyData.bulkAll (ds.take i) + (D.bulk + 1) + PyData.bulkAll (ds.drop (i + 1)) = PyData.bulkAll ds := by
  have hi : i < ds.length := (List.getElem?_eq_some_iff.mp h).1
  have e : ds = ds.take i ++ (D :: ds.drop (i + 1)) := by
    have e2 : ds.drop i = D :: ds.drop (i + 1) := by
      rw [List.drop_eq_getElem_cons hi]
      have : ds[i] = D := by
        rw [List.getElem?_eq_getElem hi] at h
        exact Option.some.inj h
      rw [this]
    rw [← e2, List.take_append_drop]
  have z := bulkA_app (ds.take i) (D :: ds.drop (i + 1))
  rw [← e] at z
  simp only [PyData.bulkAll] at z
  omega
/-- one place of a thing, at whatever depth, is another thing -/
def spBent (K : PySem.W.Frag) (N : Nat) : Sp := fun vs H Q _ => ∃ (d l : Addr) (c : Nat) (x : V) (n b m t : Nat), vs = [.ref d, x] ∧ Dek H d l c ∧ n < N ∧ c + 2 * n < 990000 ∧ Itm K d l n b m t H x ∧ 10 ^ 39 ≤ m ∧ m ≤ 10 ^ 40 ∧ b ≤ 400 ∧
  ∀ (y : V) (H2 : Hp), Itm K d l (n + 1) (2 * b + 200) (m + 1) (2 * t + 100) H2 y → Dek H2 d l (c + 2 * n + 2) → Kept d l H H2 → Q y H2
theorem ok_bent {f f1 f2 f3 : Addr} {fd fd1 fd2 fd3 : FuncData} (F : Fun K "_law_bent" "_law_bent" s__law_bent f fd) (m__law_bent : mg "_law_bent" = some (.ref f)) (b__law_bent : Binds K fd ["_law_deck_here", "_law_it"] [])
    (F__law_draw : Fun K "_law_draw" "_law_draw" s__law_draw f1 fd1) (m__law_draw : mg "_law_draw" = some (.ref f1)) (b__law_draw : Binds K fd1 ["_law_deck_here", "_law_many"] [])
    (F__law_pick : Fun K "_law_pick" "_law_pick" s__law_pick f2 fd2) (m__law_pick : mg "_law_pick" = some (.ref f2)) (b__law_pick : Binds K fd2 ["_law_deck_here", "_law_some"] [])
    (F__law_odd : Fun K "_law_odd" "_law_odd" s__law_odd f3 fd3) (m__law_odd : mg "_law_odd" = some (.ref f3)) (b__law_odd : Binds K fd3 ["_law_deck_here", "_law_it"] []) (T : Txt mg) :
    ∀ N : Nat, GFn P w K mg base CX0 (4 + N) f fd ["_law_deck_here", "_law_it"] (spBent K N) := by
  have F__law_bent := F
  have G__law_draw : GFn P w K mg base CX0 1 f1 fd1 ["_law_deck_here", "_law_many"] spDraw := ok_draw F__law_draw T
  have G__law_odd : GFn P w K mg base CX0 3 f3 fd3 ["_law_deck_here", "_law_it"] (spOdd K) := ok_odd F__law_odd F__law_draw m__law_draw b__law_draw F__law_pick m__law_pick b__law_pick T
  intro N
  induction N with
  | zero =>
    refine gfun_ok (k := 3) F sc__law_bent (fun vs H Q E h => ?_) (fun cdv A outer s H vs Q E hgu hr h => ?_)
    · obtain ⟨d, l, c, x, n, b, m, t, rfl, _, hn, _⟩ := h
      exact absurd hn (Nat.not_lt_zero _)
    · obtain ⟨d, l, c, x, n, b, m, t, rfl, _, hn, _⟩ := h
      exact absurd hn (Nat.not_lt_zero _)
  | succ N G__law_bent =>
    refine gfun_ok (k := 4 + N) F sc__law_bent (fun vs H Q E h => ?_) (fun cdv A outer s H vs Q E hgu hr h => ?_)
    · obtain ⟨d, l, c, x, n, b, m, t, rfl, _⟩ := h
      rfl
    · obtain ⟨d, l, c, x, n, b, m, t, rfl, Dk, hn, hc, ⟨D, hx, sx⟩, m0, m1, hb, q⟩ := h
      have nd := sc__law_bent.nd
      refine ⟨_, (pss_cons (ps_if (PW.pt (pw_or (pt_not (pt_val (pe_callB (k_isi (K := K)) (by rfl) T.isinstance (by decide +kernel) (pa_cons (pv 1) (pa_cons (pe_bltn (v := .ty "tuple") (by rfl) T.tuple (by decide +kernel) rfl) pa_nil))))) (pw_or (pt_cmpR (k_eqE (K := K) hr.units) (pv 1) (pe_tup pa_nil) (nomark _)) (pw_or1 (pt_cmpR op_eq (pe_g G__law_draw hgu (hr.mono (by omega)) (by rfl) m__law_draw F__law_draw.kp b__law_draw .nil pass0 (pa_cons (pv 0) (pa_cons pe_int pa_nil))) pe_int (nomark _)))))) (pss_one (ps_ret (pe_g G__law_odd hgu (hr.mono (by omega)) (by rfl) m__law_odd F__law_odd.kp b__law_odd .nil pass0 (pa_cons (pv 0) (pa_cons (pv 1) pa_nil))))) pss_nil)
      (pss_cons (ps_set (i := 2) nd rfl (Or.inl rfl) (pe_g G__law_draw hgu (hr.mono (by omega)) (by rfl) m__law_draw F__law_draw.kp b__law_draw .nil pass0 (pa_cons (pv 0) (pa_cons (pe_callB (k_len (K := K)) (by rfl) T.len (by decide +kernel) (pa_cons (pv 1) pa_nil)) pa_nil))))
      (pss_one (ps_ret (pe_op (k_catU (K := K)) (pe_op (k_catU (K := K)) (pe_slice (k_slU (K := K)) (pv 1) po_none (po_some (pv 2))) (pe_tup (pa_cons (pe_g G__law_bent hgu (hr.mono (by omega)) (by rfl) m__law_bent F__law_bent.kp b__law_bent .nil pass0 (pa_cons (pv 0) (pa_cons (pe_ix (k_ixT (K := K)) (pv 1) (pv 2) (fun _ _ => rfl)) pa_nil))) pa_nil))) (pe_slice (k_slU (K := K)) (pv 1) (po_some (pe_op op_add (pv 2) pe_int)) po_none)))))), ?_⟩
      have itm : ∀ {H1 : Hp}, Kept d l H H1 → Itm K d l n b m t H1 x := fun k => Itm.kept Dk k ⟨D, hx, sx⟩
      have fin : ∀ (c1 : Nat) (H1 : Hp), Dek H1 d l c1 → c1 ≤ c + 1 → Kept d l H H1 → ∀ De : Ends, De.rt = Q → tRet (tCall (spOdd K) [] E0 (tCons (tVar 0) (tCons (tVar 1) tNil))) De [some (.ref d), some x, none] H1 := by
        rintro c1 H1 D1 h1 k1 De rfl
        exact ⟨_, rfl, _, rfl, d, l, c1, x, n, b, m, t, rfl, D1, by omega, itm k1, m0, m1, hb, fun y H2 hy D2 k2 => q y H2 hy (D2.mono (by omega)) (k1.trans k2)⟩
      refine ⟨_, rfl, _, _, _, _, _, rfl, .ty "tuple", dx_ty (dy_dx hx), isx_tuple D, _, rfl, ?_⟩
      by_cases e : isTup D = true
      · obtain ⟨ds, rfl⟩ : ∃ ds, D = .tuple ds := by cases D <;> simp [isTup] at e ⊢
        obtain ⟨a, xs, rfl, hq, ha⟩ := dy_tuple hx
        obtain ⟨n1, sa⟩ := sx.items
        have lx := dyA_len ha
        have bl := bulkA_len ds
        have sb := sa.bulk
        refine ifF (by rw [e]; rfl) ⟨_, rfl, Nat.zero_le _, fun p np => ?_⟩
        have s1 : Same H (upd H p (.tup [])) := same_new np
        have D1 : Dek (upd H p (.tup [])) d l c := Dk.upd np
        have hp : SqT K (upd H p (.tup [])) p [] := .inl (.inl upd_same)
        generalize upd H p (.tup []) = H1 at s1 D1 hp ⊢
        refine ⟨a, p, xs, rfl, rfl, .inl ⟨sameT s1 hq, hp⟩, _, rfl, ?_⟩
        by_cases e0 : xs.isEmpty = true
        · refine ifT e0 (ifT rfl (fin c H1 D1 (by omega) (.of s1) _ rfl))
        · refine ifF (by simpa using e0) ?_
          have pos : 0 < xs.length := by
            cases xs with
            | nil => exact absurd rfl e0
            | cons _ _ => exact Nat.succ_pos _
          refine ⟨_, rfl, d, l, c, 5, rfl, D1, by omega, by decide, by decide, fun r H2 r0 r1 D2 k2 => ?_⟩
          have k2 : Kept d l H H2 := (Kept.of s1).trans k2
          refine ⟨rfl, _, rfl, ite2 (fun _ => ?_) (fun _ => ?_)⟩
          · exact fin (c + 1) H2 D2 (by omega) k2 _ rfl
          · have hq2 := k2.tupG Dk hq
            refine ⟨_, rfl, _, rfl, a, _, rfl, .inr hq2, d, l, c + 1, _, rfl, D2, by omega, by omega, by omega, fun j H3 j0 j1 D3 k3 => ?_⟩
            obtain ⟨i, rfl⟩ : ∃ i : Nat, j = (i : Int) := ⟨j.toNat, by omega⟩
            have hi : i < xs.length := by omega
            have k3 : Kept d l H H3 := k2.trans k3
            have hx3 := dy_kept Dk k3 hx
            have hq3 := k3.tupG Dk hq
            have ha3 := dyA_kept Dk k3 ha
            obtain ⟨Di, hDi, hxi⟩ := dyA_get ha3 (List.getElem?_eq_getElem hi)
            have mem := List.mem_of_getElem? hDi
            have bi := bulkA_mem mem
            have si : Sx (n - 1) (Di.bulk) m t Di := ⟨sa.dep _ mem, Nat.le_refl _, sa.fit _ mem⟩
            have e3 : cutV xs none (some (i : Int)) = xs.take i := cut_take xs i
            have e4 : cutV xs (some ((i : Int) + 1)) none = xs.drop (i + 1) := cut_drop xs (i + 1)
            refine ⟨_, rfl, _, rfl, i, rfl, a, xs, rfl, hq3, fun z H4 s4 h4 => ?_⟩
            rw [e3] at h4
            have D4 := D3.same s4
            have k4 : Kept d l H H4 := k3.trans (.of s4)
            refine ⟨_, rfl, _, rfl, _, rfl, a, xs, i, _, rfl, rfl, sameT s4 hq3, atI_nat (List.getElem?_eq_getElem hi), ?_⟩
            refine ⟨d, l, c + 1 + 1, _, n - 1, Di.bulk, m, t, rfl, D4, by omega, by omega, ⟨Di, dy_same s4 hxi, si⟩, m0, m1, by omega, fun y H5 ⟨Dr, hy, sy⟩ D5 k5 => ?_⟩
            refine ⟨by show 1 ≤ sizeLine; decide, fun p5 np5 => ?_⟩
            have s6 : Same H5 (upd H5 p5 (.tup [y])) := same_new np5
            have hp6 : SqT K (upd H5 p5 (.tup [y])) p5 [y] := .inl (.inl upd_same)
            have D6 : Dek (upd H5 p5 (.tup [y])) d l (c + 1 + 1 + 2 * (n - 1) + 2) := D5.upd np5
            generalize upd H5 p5 (.tup [y]) = H6 at s6 hp6 D6 ⊢
            have h46 : SqT K H6 z (xs.take i) := sameT s6 (k5.tupG D4 h4)
            have k6 : Kept d l H H6 := (k4.trans k5).trans (.of s6)
            have lt : (xs.take i).length ≤ 400 := by rw [List.length_take]; omega
            refine ⟨z, p5, _, _, rfl, rfl, h46, hp6, Nat.le_of_lt (small1000 (by rw [List.length_singleton]; omega)), fun z2 H7 s7 h7 => ?_⟩
            have k7 : Kept d l H H7 := k6.trans (.of s7)
            refine ⟨_, rfl, _, rfl, _, _, rfl, rfl, _, rfl, a, xs, rfl, k7.tupG Dk hq, fun z3 H8 s8 h8 => ?_⟩
            rw [e4] at h8
            have ld : (xs.drop (i + 1)).length ≤ 400 := by rw [List.length_drop]; omega
            refine ⟨z2, z3, _, _, rfl, rfl, sameT s8 h7, h8, Nat.le_of_lt (small1000 (by rw [List.length_append, List.length_singleton]; omega)), fun z4 H9 s9 h9 => ?_⟩
            have k9 : Kept d l H H9 := k7.trans ((Kept.of s8).trans (.of s9))
            have ha9 := dyA_kept Dk k9 ha
            have hy9 : Dy K d l H9 y Dr := dy_same (((s6.trans s7).trans s8).trans s9) hy
            have bt := bulk_at hDi
            have yb := sy.bulk
            have yd := sy.dep
            refine q (.ref z4) H9 ⟨.tuple (ds.take i ++ [Dr] ++ ds.drop (i + 1)), .tup h9 (dyA_app (dyA_app (dyA_take i ha9) (.cons hy9 .nil)) (dyA_drop (i + 1) ha9)), ?_⟩ ((((D6.same s7).same s8).same s9).mono (by omega)) k9
            refine (SxA.tuple (n := n) ⟨fun e he => ?_, ?_, fun e he => ?_⟩)
            · rcases List.mem_append.mp he with he | he
              · rcases List.mem_append.mp he with he | he
                · have := sa.dep e (List.mem_of_mem_take he)
                  omega
                · rw [List.mem_singleton.mp he]
                  omega
              · have := sa.dep e (List.mem_of_mem_drop he)
                omega
            · rw [bulkA_app, bulkA_app]
              simp only [PyData.bulkAll]
              omega
            · rcases List.mem_append.mp he with he | he
              · rcases List.mem_append.mp he with he | he
                · exact fit_mono (by omega) (by omega) _ (sa.fit e (List.mem_of_mem_take he))
                · rw [List.mem_singleton.mp he]
                  exact sy.fit
              · exact fit_mono (by omega) (by omega) _ (sa.fit e (List.mem_of_mem_drop he))
      · refine ifT (by simp [e]) ?_
        exact ifT rfl (fin c H Dk (by omega) (Kept.refl _ _ _) _ rfl)
end
end SG

namespace SG
open PySem PySem.Spec PyProof.Rows L2
section
variable {P : Program} {w : World} {K : PySem.W.Frag} {mg : Str → Option Value} {base : Heap}
def spIsInt (K : PySem.W.Frag) : Sp := fun vs H Q _ => ∃ (x : V) (D : PyData), vs = [x] ∧ Dx K H x D ∧ Q (.bl (isInt D)) H
theorem ok_is_integer {f : Addr} {fd : FuncData} (F : Fun K "is_integer" "is_integer" s_is_integer f fd) (T : Txt mg) : GFn P w K mg base CX0 1 f fd ["thing"] (spIsInt K) := by
  refine gfun_ok F sc_is_integer (fun vs H Q E h => ?_) (fun cdv A outer s H vs Q E hgu hr h => ?_)
  · obtain ⟨x, d, rfl, _⟩ := h
    rfl
  · obtain ⟨x, d, rfl, hd, q⟩ := h
    have nd := sc_is_integer.nd
    refine ⟨_, (pss_one (ps_ret (pe_and (pe_callB (k_isi (K := K)) (by rfl) T.isinstance (by decide +kernel) (pa_cons (pv 0) (pa_cons (pe_bltn (v := .ty "int") (by rfl) T.int (by decide +kernel) rfl) pa_nil))) (pe_one (pe_not (pe_callB (k_isi (K := K)) (by rfl) T.isinstance (by decide +kernel) (pa_cons (pv 0) (pa_cons (pe_bltn (v := .ty "bool") (by rfl) T.bool (by decide +kernel) rfl) pa_nil)))))))), ?_⟩
    refine ⟨_, rfl, _, _, _, _, _, rfl, .ty "int", dx_ty hd, isx_int d, _, rfl, ?_⟩
    by_cases e : isIntLike d = true
    · refine ifT e ⟨_, rfl, _, _, _, _, _, rfl, .ty "bool", dx_ty hd, isx_bool d, _, rfl, ?_⟩
      have z : (!isBool d) = isInt d := by cases d <;> simp [isIntLike, isBool, isInt] at e ⊢
      show Q (.bl (!isBool d)) H
      rw [z]
      exact q
    · refine ifF (by simpa using e) ?_
      have z : isInt d = false := by cases d <;> simp [isIntLike, isInt] at e ⊢
      rw [z] at q
      exact q
def belowD (n : Int) : PyData → Bool
  | .int i => decide (0 ≤ i) && decide (i < n)
  | _ => false
def spBelow (K : PySem.W.Frag) : Sp := fun vs H Q _ => ∃ (x : V) (D : PyData) (n : Int), vs = [x, .int n] ∧ Dx K H x D ∧ Q (.bl (belowD n D)) H
theorem ok_is_below {f f1 : Addr} {fd fd1 : FuncData} (F : Fun K "is_below" "is_below" s_is_below f fd) (F_is_integer : Fun K "is_integer" "is_integer" s_is_integer f1 fd1) (m_is_integer : mg "is_integer" = some (.ref f1)) (b_is_integer : Binds K fd1 ["thing"] []) (T : Txt mg) : GFn P w K mg base CX0 2 f fd ["thing", "size"] (spBelow K) := by
  have G_is_integer : GFn P w K mg base CX0 1 f1 fd1 ["thing"] (spIsInt K) := ok_is_integer F_is_integer T
  refine gfun_ok F sc_is_below (fun vs H Q E h => ?_) (fun cdv A outer s H vs Q E hgu hr h => ?_)
  · obtain ⟨x, d, n, rfl, _⟩ := h
    rfl
  · obtain ⟨x, d, n, rfl, hd, q⟩ := h
    have nd := sc_is_below.nd
    refine ⟨_, (pss_one (ps_ret (pe_and (pe_g G_is_integer hgu (hr.mono (by decide)) (by rfl) m_is_integer F_is_integer.kp b_is_integer .nil pass0 (pa_cons (pv 0) pa_nil)) (pe_one (pe_chain op_le op_lt pe_int (pv 0) (pv 1)))))), ?_⟩
    refine ⟨_, rfl, x, d, rfl, hd, _, rfl, ?_⟩
    cases e : isInt d with
    | false =>
      refine ifF (by rfl) ?_
      have z : belowD n d = false := by cases d <;> simp [isInt] at e ⊢ <;> rfl
      rw [z] at q
      exact q
    | true =>
      obtain ⟨i, rfl⟩ : ∃ i, d = .int i := by cases d <;> simp [isInt] at e ⊢
      obtain rfl : x = .int i := by cases hd; rfl
      refine ifT (by rfl) ⟨_, rfl, _, _, rfl, rfl, _, rfl, ?_⟩
      have q : Q (.bl (decide (0 ≤ i) && decide (i < n))) H := q
      cases h0 : decide (0 ≤ i) with
      | false =>
        refine ifF (by rfl) ?_
        rw [h0, Bool.false_and] at q
        exact q
      | true =>
        rw [h0, Bool.true_and] at q
        exact ifT (by rfl) ⟨_, rfl, _, _, rfl, rfl, q⟩
def spJoinedAt : Sp := fun vs H Q _ => ∃ (t : Int) (n : Nat), vs = [.int t, .int n] ∧ Q (.int (if n % 2 = 0 then 2 else t)) H
theorem ok_joined_at_first {f : Addr} {fd : FuncData} (F : Fun K "joined_at_first" "joined_at_first" s_joined_at_first f fd) (T : Txt mg) : GFn P w K mg base CX0 1 f fd ["letters", "many"] spJoinedAt := by
  refine gfun_ok F sc_joined_at_first (fun vs H Q E h => ?_) (fun cdv A outer s H vs Q E hgu hr h => ?_)
  · obtain ⟨t, n, rfl, _⟩ := h
    rfl
  · obtain ⟨t, n, rfl, q⟩ := h
    have nd := sc_joined_at_first.nd
    refine ⟨_, (pss_one (ps_ret (pe_ifExp (pt_cmpR op_eq (pe_op op_mod (pv 1) pe_int) pe_int (nomark _)) pe_int (pv 0)))), ?_⟩
    refine ⟨_, rfl, _, _, rfl, rfl, (by show (0 : Int) < 2; decide), rfl, _, rfl, ite2 (fun h => ?_) (fun h => ?_)⟩
    · rw [dec_int, beq_iff_eq] at h
      rw [if_pos (by omega)] at q
      exact q
    · rw [dec_int, beq_iff_eq] at h
      rw [if_neg (by omega)] at q
      exact ⟨_, rfl, q⟩
/-- each one less than its neighbour? -/
def adj : List Int → List Bool
  | a :: b :: r => decide (a < b) :: adj (b :: r)
  | _ => []
theorem adj_len : ∀ ns : List Int, (adj ns).length = ns.length - 1
  | [] => rfl
  | [_] => rfl
  | a :: b :: r => by
    have := adj_len (b :: r)
    simp only [adj, List.length_cons] at this ⊢
    omega
theorem adj_all : ∀ ns : List Int, (adj ns).all id = ascI ns
  | [] => rfl
  | [_] => rfl
  | a :: b :: r => by
    have := adj_all (b :: r)
    simp only [adj, ascI, List.all_cons, id_eq, this]
theorem adj_get : ∀ {ns : List Int} {i : Nat} {a b : Int}, ns[i]? = some a → ns[i + 1]? = some b → (adj ns)[i]? = some (decide (a < b))
  | a :: b :: r, 0, x, y, h1, h2 => by
    simp at h1 h2
    subst h1 h2
    rfl
  | a :: b :: r, i + 1, x, y, h1, h2 => by
    have z := adj_get (ns := b :: r) (i := i) (a := x) (b := y) (by simpa using h1) (by simpa using h2)
    simpa [adj] using z
  | [a], 0, x, y, _, h2 => by simp at h2
  | [a], i + 1, x, y, h1, _ => by simp at h1
  | [], i, x, y, h1, _ => by simp at h1
def spAsc (K : PySem.W.Frag) : Sp := fun vs H Q _ => ∃ (p : Addr) (ns : List Int), vs = [.ref p] ∧ SqT K H p (ns.map V.int) ∧ ns.length ≤ 1000 ∧ ∀ H2, Same H H2 → Q (.bl (ascI ns)) H2
theorem ok_is_ascending {f : Addr} {fd : FuncData} (F : Fun K "is_ascending" "is_ascending" s_is_ascending f fd) (T : Txt mg) : GFn P w K mg base CX0 1 f fd ["things"] (spAsc K) := by
  refine gfun_ok F sc_is_ascending (fun vs H Q E h => ?_) (fun cdv A outer s H vs Q E hgu hr h => ?_)
  · obtain ⟨p, ns, rfl, _⟩ := h
    rfl
  · obtain ⟨p, ns, rfl, hp, hl, q⟩ := h
    have nd := sc_is_ascending.nd
    refine ⟨_, (pss_one (ps_ret (pe_callB (k_all (K := K) rfl) (by rfl) T.all (by decide +kernel) (pa_cons (pe_lc (own := [("one", 1), ("other", 2)]) rfl nd (k_zipA (K := K) (by rfl) T.zip (pa_cons (pv 0) (pa_cons (pe_slice (k_slU (K := K)) (pv 0) (po_some pe_int) po_none) pa_nil))) (blkOk_by (N := N_is_ascending) (sc := defScope s_is_ascending) (by decide +kernel)) (fun _ _ _ _ _ => (k_tg (K := K) (n := 2) rfl (pgs_cons (pg_name (i := 1) nd rfl (Or.inl rfl)) (pgs_cons (pg_name (i := 2) nd rfl (Or.inl rfl)) pgs_nil)))) (fun _ _ _ _ _ => pts_nil) (fun _ _ _ _ _ => (pe_cmpR op_lt (pv 1) (pv 2) (nomark _)))) pa_nil)))), ?_⟩
    have eD : cutV (ns.map V.int) (some ((1 : Nat) : Int)) none = (ns.drop 1).map V.int := by rw [cut_drop, List.map_drop]
    refine ⟨_, rfl, _, rfl, 1, rfl, p, _, rfl, hp, fun z H3 s3 h3 => ?_⟩
    have h3 : SqT K H3 z ((ns.drop 1).map V.int) := by rw [← eD]; exact h3
    refine ⟨p, z, _, _, rfl, .inr ⟨sameT s3 hp, h3, fun D nD => ?_⟩⟩
    refine lc_same (walk_zipT (K := K) (a := p) (b := z) (xs := ns.map V.int) (ys := (ns.drop 1).map V.int) rfl) (by simp; omega) nD (fun i acc _ => acc = ((adj ns).take i).map V.bl) rfl (fun _ _ _ _ _ h => h) (fun H5 s5 => ⟨sameT s5 (sameT s3 hp), sameT s5 h3⟩) ?_ ?_
    · rintro i x acc H5 H6 hi s5 rfl ⟨T0, u, v, rfl, nT, rfl, hu, hv⟩ R N hR hN
      have hu : (ns.map V.int)[i]? = some u := hu
      have hv : ((ns.drop 1).map V.int)[i]? = some v := hv
      rw [List.getElem?_map] at hu hv
      obtain ⟨a, ha, rfl⟩ := Option.map_eq_some_iff.mp hu
      obtain ⟨b, hb, rfl⟩ := Option.map_eq_some_iff.mp hv
      refine ⟨T0, _, rfl, .inl (.inl upd_same), rfl, _, _, rfl, _, _, rfl, rfl, wipe2 _ _ _ _ _, ?_⟩
      refine yesI (A := fun H7 => _) ?_
      refine ⟨_, rfl, _, rfl, _, _, rfl, rfl, hR _ _ (same_new nT) ?_⟩
      have e := adj_get ha (by rw [List.getElem?_drop, Nat.add_comm] at hb; exact hb)
      rw [List.take_add_one, e]
      simp
    · rintro acc H5 s5 hl2 hD rfl
      refine ⟨D, _, rfl, SqL.of hD, ?_⟩
      have e : (adj ns).take (min (ns.map V.int).length ((ns.drop 1).map V.int).length) = adj ns := by
        rw [List.length_map, List.length_map, List.length_drop]
        refine List.take_of_length_le ?_
        rw [adj_len]
        omega
      rw [e, adj_all]
      exact q H5 (s3.trans s5)
end
end SG

namespace SG
open PySem PySem.Spec PyProof.Rows L2
section
variable {P : Program} {w : World} {K : PySem.W.Frag} {mg : Str → Option Value} {base : Heap}
def intD : PyData → Int
  | .int i => i
  | _ => 0
/-- so many whole numbers below a bound, ascending -/
def joinD (size many : Int) : PyData → Bool
  | .tuple ds => decide ((ds.length : Int) = size) && (ds.all (belowD many) && ascI (ds.map intD))
  | _ => false
theorem below_int {n : Int} {D : PyData} (h : belowD n D = true) : ∃ i, D = .int i ∧ 0 ≤ i ∧ i < n := by
  cases D with
  | int i =>
    simp only [belowD, Bool.and_eq_true, decide_eq_true_eq] at h
    exact ⟨i, rfl, h.1, h.2⟩
  | _ => cases h
theorem all_below {n : Int} : ∀ {ds : List PyData}, ds.all (belowD n) = true → ds = (ds.map intD).map PyData.int ∧ ∀ k ∈ ds.map intD, 0 ≤ k ∧ k < n
  | [], _ => ⟨rfl, fun _ h => (nomatch h)⟩
  | D :: ds, h => by
    have h2 : belowD n D = true ∧ ds.all (belowD n) = true := by simpa using h
    obtain ⟨i, rfl, i0, i1⟩ := below_int h2.1
    obtain ⟨e, hb⟩ := all_below h2.2
    refine ⟨?_, fun k hk => ?_⟩
    · show PyData.int i :: ds = PyData.int i :: (ds.map intD).map PyData.int
      rw [← e]
    · rcases List.mem_cons.mp hk with rfl | hk
      · exact ⟨i0, i1⟩
      · exact hb k hk
theorem dxA_ints {H : Hp} : ∀ {xs : List V} {ns : List Int}, DxAll K H xs (ns.map PyData.int) → xs = ns.map V.int
  | _, [], .nil => rfl
  | _, n :: ns, .cons a b => by
    cases a
    rw [dxA_ints b]
    rfl
def spIsJoin (K : PySem.W.Frag) : Sp := fun vs H Q _ => ∃ (x : V) (D : PyData) (size many : Int), vs = [x, .int size, .int many] ∧ Dx K H x D ∧ (∀ ds, D = .tuple ds → ds.length ≤ 1000) ∧ ∀ H2, Same H H2 → Q (.bl (joinD size many D)) H2
theorem ok_is_join {f f1 f2 f3 : Addr} {fd fd1 fd2 fd3 : FuncData} (F : Fun K "is_join" "is_join" s_is_join f fd) (F_is_below : Fun K "is_below" "is_below" s_is_below f1 fd1) (m_is_below : mg "is_below" = some (.ref f1)) (b_is_below : Binds K fd1 ["thing", "size"] [])
    (F_is_integer : Fun K "is_integer" "is_integer" s_is_integer f2 fd2) (m_is_integer : mg "is_integer" = some (.ref f2)) (b_is_integer : Binds K fd2 ["thing"] []) (F_is_ascending : Fun K "is_ascending" "is_ascending" s_is_ascending f3 fd3) (m_is_ascending : mg "is_ascending" = some (.ref f3)) (b_is_ascending : Binds K fd3 ["things"] []) (T : Txt mg) :
    GFn P w K mg base CX0 3 f fd ["thing", "size", "many"] (spIsJoin K) := by
  have G_is_below : GFn P w K mg base CX0 2 f1 fd1 ["thing", "size"] (spBelow K) := ok_is_below F_is_below F_is_integer m_is_integer b_is_integer T
  have G_is_ascending : GFn P w K mg base CX0 1 f3 fd3 ["things"] (spAsc K) := ok_is_ascending F_is_ascending T
  refine gfun_ok F sc_is_join (fun vs H Q E h => ?_) (fun cdv A outer s H vs Q E hgu hr h => ?_)
  · obtain ⟨x, D, size, many, rfl, _⟩ := h
    rfl
  · obtain ⟨x, D, size, many, rfl, hd, few, q⟩ := h
    have nd := sc_is_join.nd
    refine ⟨_, (pss_cons (ps_if (PW.pt (pw_or (pt_not (pt_val (pe_callB (k_isi (K := K)) (by rfl) T.isinstance (by decide +kernel) (pa_cons (pv 0) (pa_cons (pe_bltn (v := .ty "tuple") (by rfl) T.tuple (by decide +kernel) rfl) pa_nil))))) (pw_or1 (pt_cmpR op_ne (pe_callB (k_len (K := K)) (by rfl) T.len (by decide +kernel) (pa_cons (pv 0) pa_nil)) (pv 1) (nomark _))))) (pss_one (ps_ret pe_bl)) pss_nil)
      (pss_one (ps_ret (pe_and (pe_callB (k_all (K := K) rfl) (by rfl) T.all (by decide +kernel) (pa_cons (pe_lc (own := [("node", 3)]) rfl nd (pi_tup (pv 0)) (blkOk_by (N := N_is_join) (sc := defScope s_is_join) (by decide +kernel)) (fun _ _ _ _ _ => (pg_name (i := 3) nd rfl (Or.inl rfl))) (fun _ _ _ _ _ => pts_nil) (fun _ _ _ _ _ => (pe_g G_is_below hgu (hr.mono (by decide)) (by rfl) m_is_below F_is_below.kp b_is_below .nil pass0 (pa_cons (pv 3) (pa_cons (pv 2) pa_nil))))) pa_nil)) (pe_one (pe_g G_is_ascending hgu (hr.mono (by decide)) (by rfl) m_is_ascending F_is_ascending.kp b_is_ascending .nil pass0 (pa_cons (pv 0) pa_nil))))))), ?_⟩
    refine ⟨_, rfl, _, _, _, _, _, rfl, .ty "tuple", dx_ty hd, isx_tuple D, _, rfl, ?_⟩
    by_cases e : isTup D = true
    · obtain ⟨ds, rfl⟩ : ∃ ds, D = .tuple ds := by cases D <;> simp [isTup] at e ⊢
      obtain ⟨p, xs, rfl, hp, ha⟩ := dx_tuple hd
      have lx := dxA_len ha
      have lf := few _ rfl
      refine ifF (by rw [e]; rfl) ⟨_, rfl, p, _, rfl, .inr hp, _, rfl, rfl, _, rfl, ?_⟩
      have q : ∀ H2, Same H H2 → Q (.bl (decide ((ds.length : Int) = size) && (ds.all (belowD many) && ascI (ds.map intD)))) H2 := q
      by_cases l2 : (xs.length : Int) = size
      · refine ifF (by simp [l2]) ?_
        refine ⟨_, rfl, p, rfl, ⟨_, hp⟩, fun D1 nD => ?_⟩
        refine lc_same (walk_tup (K := K) (a := p) (xs := xs)) (by omega) nD (fun i acc _ => acc = ((ds.map (belowD many)).take i).map V.bl) rfl (fun _ _ _ _ _ h => h) (fun H5 s5 => sameT s5 hp) ?_ ?_
        · rintro i y acc H5 H6 hi s5 rfl ⟨rfl, hy⟩ R N hR hN
          obtain ⟨Dy, h1, h2⟩ := dxA_get (dxA_same s5 ha) hy
          refine ⟨wipe1 _ _ _, ?_⟩
          refine yesI (A := fun H7 => _) ?_
          refine ⟨_, rfl, _, rfl, y, Dy, many, rfl, h2, hR _ _ (Same.refl _) ?_⟩
          rw [List.take_add_one, List.getElem?_map, h1]
          simp
        · rintro acc H5 s5 hl hD1 rfl
          refine ⟨D1, _, rfl, SqL.of hD1, _, rfl, ?_⟩
          have e1 : ((ds.map (belowD many)).take xs.length).all id = ds.all (belowD many) := by
            rw [List.take_of_length_le (by rw [List.length_map]; omega), List.all_map]
            rfl
          rw [e1]
          have q := q
          rw [decide_eq_true (by omega : (ds.length : Int) = size)] at q
          cases ea : ds.all (belowD many) with
          | false =>
            refine ifF (by rfl) ?_
            have z := q H5 s5
            rw [ea] at z
            exact z
          | true =>
            obtain ⟨ei, hb⟩ := all_below ea
            have hx : xs = (ds.map intD).map V.int := by
              rw [ei] at ha
              exact dxA_ints ha
            rw [hx] at hp
            refine ifT (by rfl) ⟨_, rfl, p, ds.map intD, rfl, sameT s5 hp, by rw [List.length_map]; omega, fun H6 s6 => ?_⟩
            have z := q H6 (s5.trans s6)
            rw [ea] at z
            exact z
      · refine ifT (by simp [l2]) ?_
        have z := q H (Same.refl H)
        rw [decide_eq_false (by omega : ¬ (ds.length : Int) = size)] at z
        exact z
    · refine ifT (by simp [e]) ?_
      have z := q H (Same.refl H)
      have e2 : joinD size many D = false := by cases D <;> simp [isTup, joinD] at e ⊢
      rw [e2] at z
      exact ifT rfl z
end
end SG

namespace SG
open PySem PySem.Spec PyProof.Rows L2
section
variable {P : Program} {w : World} {K : PySem.W.Frag} {mg : Str → Option Value} {base : Heap}
theorem inV_int (k : Int) (ns : List Int) : inV (.int k) (ns.map V.int) = decide (k ∈ ns) := by
  unfold inV
  rw [List.any_map, Bool.eq_iff_iff, List.any_eq_true, decide_eq_true_eq]
  constructor
  · rintro ⟨x, hx, h⟩
    have h : (x == k) = true := h
    rw [← eq_of_beq h]
    exact hx
  · intro h
    exact ⟨k, h, (beq_self_eq_true k : (k == k) = true)⟩
theorem flat_ints (ns : List Int) : (ns.map V.int).all flatV = true := by
  rw [List.all_map, List.all_eq_true]
  exact fun _ _ => rfl
theorem get_int {ns : List Int} {i : Nat} {x : V} (h : (ns.map V.int)[i]? = some x) : ∃ k, x = .int k ∧ ns[i]? = some k := by
  rw [List.getElem?_map] at h
  obtain ⟨k, h1, h2⟩ := Option.map_eq_some_iff.mp h
  exact ⟨k, h2.symm, h1⟩
/-- the weight of a node stands there -/
theorem wt_at {told : List Int} {k : Int} (h0 : 0 ≤ k) (h1 : k < told.length) : (told.map V.int)[k.toNat]? = some (.int (wt told k)) := by
  have hk : k.toNat < told.length := by omega
  rw [List.getElem?_map, List.getElem?_eq_getElem hk]
  unfold wt
  rw [List.getD_eq_getElem?_getD, List.getElem?_eq_getElem hk]
  rfl
theorem int_nat {k : Int} (h : 0 ≤ k) : k = ((k.toNat : Nat) : Int) := by omega
def canI (told left ns : List Int) : Bool := ns.all (fun k => decide (k ∈ left)) && okTop told left ns
def spCan (K : PySem.W.Frag) : Sp := fun vs H Q _ => ∃ (a b p : Addr) (told left ns : List Int), vs = [.ref a, .ref b, .ref p] ∧ SqL K H a (told.map V.int) ∧ SqL K H b (left.map V.int) ∧ SqT K H p (ns.map V.int) ∧ ns ≠ [] ∧
  (∀ k ∈ left, 0 ≤ k ∧ k < told.length) ∧ (∀ k ∈ ns, 0 ≤ k ∧ k < told.length) ∧ left.length ≤ 1000 ∧ ns.length ≤ 1000 ∧ ∀ H2, Same H H2 → Q (.bl (canI told left ns)) H2
/-- a row of answers, one for each of a row of whole numbers -/
theorem lc_bools {J : It} {G : Hp → Prop} {ns : List Int} {te : TE} {s : Nat} {σ : L2.St} {H1 : Hp} {D : Addr} {Qd : Hp → Prop} (w : Walk J (ns.map V.int).length G (YAt (ns.map V.int))) (hn : ns.length ≤ 1000) (hD : H1 D = none) (g : Int → Bool) (hG : ∀ H, Same H1 H → G H)
    (turn : ∀ (k : Int) (H2 : Hp), k ∈ ns → Same H1 H2 → ∀ R : VK, (∀ H3, Same H2 H3 → R (.bl (g k)) H3) → te ((wipe σ [s]).set s (some (.int k))) H2 R)
    (done : ∀ H2, Same H1 H2 → H2 D = some (.lst ((ns.map g).map V.bl)) → Qd H2) :
    ∃ W : Nat → Nat → Hp → Prop, (∃ m, W 0 m (upd H1 D (.lst []))) ∧ ∀ i m H, W i m H →
      (J.stop i H ∧ Qd H) ∨ (J.go i H ∧ ∃ Nx : Hp → Prop, (∀ H', Nx H' → ∃ m', m' < m ∧ W (i + 1) m' H') ∧ ∀ x H', J.yld i H x H' → gName s x (wipe σ [s]) H' fun σ2 H2 => wipe σ2 [s] = wipe σ [s] ∧ tYes σ2 H2 fun b H3 =>
        if b = true then te σ2 H3 fun y H4 => ∃ acc, H4 D = some (.lst acc) ∧ acc.length < sizeLine ∧ Nx (upd H4 D (.lst (acc ++ [y]))) else Nx H3) := by
  refine lc_same w (by rw [List.length_map]; exact hn) hD (fun i acc _ => acc = ((ns.map g).take i).map V.bl) rfl (fun _ _ _ _ _ h => h) hG ?_ ?_
  · rintro i x acc H5 H6 hi s5 rfl ⟨rfl, hx⟩ R N hR hN
    obtain ⟨k, rfl, hk⟩ := get_int hx
    refine ⟨wipe1 _ _ _, ?_⟩
    refine yesI (A := fun H7 => _) ?_
    refine turn k _ (List.mem_of_getElem? hk) s5 _ fun H3 s3 => hR _ _ s3 ?_
    rw [List.take_add_one, List.getElem?_map, hk]
    simp
  · rintro acc H5 s5 hl hD1 rfl
    rw [List.length_map, List.take_of_length_le (by rw [List.length_map]; exact Nat.le_refl _)] at hD1
    exact done H5 s5 hD1
theorem lc_nums {J : It} {G : Hp → Prop} {ns : List Int} {te : TE} {s : Nat} {σ : L2.St} {H1 : Hp} {D : Addr} {Qd : Hp → Prop} (w : Walk J (ns.map V.int).length G (YAt (ns.map V.int))) (hn : ns.length ≤ 1000) (hD : H1 D = none) (g : Int → Int) (hG : ∀ H, Same H1 H → G H)
    (turn : ∀ (k : Int) (H2 : Hp), k ∈ ns → Same H1 H2 → ∀ R : VK, (∀ H3, Same H2 H3 → R (.int (g k)) H3) → te ((wipe σ [s]).set s (some (.int k))) H2 R)
    (done : ∀ H2, Same H1 H2 → H2 D = some (.lst ((ns.map g).map V.int)) → Qd H2) :
    ∃ W : Nat → Nat → Hp → Prop, (∃ m, W 0 m (upd H1 D (.lst []))) ∧ ∀ i m H, W i m H →
      (J.stop i H ∧ Qd H) ∨ (J.go i H ∧ ∃ Nx : Hp → Prop, (∀ H', Nx H' → ∃ m', m' < m ∧ W (i + 1) m' H') ∧ ∀ x H', J.yld i H x H' → gName s x (wipe σ [s]) H' fun σ2 H2 => wipe σ2 [s] = wipe σ [s] ∧ tYes σ2 H2 fun b H3 =>
        if b = true then te σ2 H3 fun y H4 => ∃ acc, H4 D = some (.lst acc) ∧ acc.length < sizeLine ∧ Nx (upd H4 D (.lst (acc ++ [y]))) else Nx H3) := by
  refine lc_same w (by rw [List.length_map]; exact hn) hD (fun i acc _ => acc = ((ns.map g).take i).map V.int) rfl (fun _ _ _ _ _ h => h) hG ?_ ?_
  · rintro i x acc H5 H6 hi s5 rfl ⟨rfl, hx⟩ R N hR hN
    obtain ⟨k, rfl, hk⟩ := get_int hx
    refine ⟨wipe1 _ _ _, ?_⟩
    refine yesI (A := fun H7 => _) ?_
    refine turn k _ (List.mem_of_getElem? hk) s5 _ fun H3 s3 => hR _ _ s3 ?_
    rw [List.take_add_one, List.getElem?_map, hk]
    simp
  · rintro acc H5 s5 hl hD1 rfl
    rw [List.length_map, List.take_of_length_le (by rw [List.length_map]; exact Nat.le_refl _)] at hD1
    exact done H5 s5 hD1
/-- those of a row of whole numbers that pass -/
theorem lc_pass {J : It} {G : Hp → Prop} {ns : List Int} {tt : TT} {s : Nat} {σ : L2.St} {H1 : Hp} {D : Addr} {Qd : Hp → Prop} (w : Walk J (ns.map V.int).length G (YAt (ns.map V.int))) (hn : ns.length ≤ 1000) (hs : s < σ.length) (hD : H1 D = none) (g : Int → Bool) (hG : ∀ H, Same H1 H → G H)
    (turn : ∀ (k : Int) (H2 : Hp), k ∈ ns → Same H1 H2 → ∀ R : Bool → Hp → Prop, (∀ H3, Same H2 H3 → R (g k) H3) → tt ((wipe σ [s]).set s (some (.int k))) H2 R)
    (done : ∀ H2, Same H1 H2 → H2 D = some (.lst ((ns.filter g).map V.int)) → Qd H2) :
    ∃ W : Nat → Nat → Hp → Prop, (∃ m, W 0 m (upd H1 D (.lst []))) ∧ ∀ i m H, W i m H →
      (J.stop i H ∧ Qd H) ∨ (J.go i H ∧ ∃ Nx : Hp → Prop, (∀ H', Nx H' → ∃ m', m' < m ∧ W (i + 1) m' H') ∧ ∀ x H', J.yld i H x H' → gName s x (wipe σ [s]) H' fun σ2 H2 => wipe σ2 [s] = wipe σ [s] ∧ tt σ2 H2 fun b H3 =>
        if b = true then tVar s σ2 H3 fun y H4 => ∃ acc, H4 D = some (.lst acc) ∧ acc.length < sizeLine ∧ Nx (upd H4 D (.lst (acc ++ [y]))) else Nx H3) := by
  refine lc_same w (by rw [List.length_map]; exact hn) hD (fun i acc _ => acc = ((ns.take i).filter g).map V.int) rfl (fun _ _ _ _ _ h => h) hG ?_ ?_
  · rintro i x acc H5 H6 hi s5 rfl ⟨rfl, hx⟩ R N hR hN
    obtain ⟨k, rfl, hk⟩ := get_int hx
    refine ⟨wipe1 _ _ _, ?_⟩
    refine turn k _ (List.mem_of_getElem? hk) s5 _ fun H3 s3 => ?_
    have e : (ns.take (i + 1)).filter g = (ns.take i).filter g ++ (if g k = true then [k] else []) := by
      rw [List.take_add_one, hk, List.filter_append]
      congr 1
      by_cases e : g k = true <;> simp [e]
    by_cases e2 : g k = true
    · rw [e2]
      refine ifT rfl ⟨.int k, ?_, hR _ _ s3 ?_⟩
      · rw [List.getElem?_set_self (by rw [wipe_length]; exact hs)]
      · rw [e, if_pos e2, List.map_append]
        rfl
    · have e3 : g k = false := by simpa using e2
      rw [e3]
      refine ifF rfl (hN _ s3 ?_)
      rw [e, if_neg e2, List.append_nil]
  · rintro acc H5 s5 hl hD1 rfl
    rw [List.length_map, List.take_of_length_le (Nat.le_refl _)] at hD1
    exact done H5 s5 hD1
theorem okTop_max {told left ns : List Int} {m : Int} (h1 : m ∈ ns.map (wt told)) (h2 : ∀ y ∈ ns.map (wt told), y ≤ m) : okTop told left ns = left.all fun k => decide (k ∈ ns) || decide (m ≤ wt told k) := by
  unfold okTop
  congr 1
  funext k
  congr 1
  rw [Bool.eq_iff_iff, List.all_eq_true, decide_eq_true_eq]
  obtain ⟨j, hj, rfl⟩ := List.mem_map.mp h1
  constructor
  · intro h
    exact of_decide_eq_true (h j hj)
  · intro h i hi
    have := h2 _ (List.mem_map.mpr ⟨i, hi, rfl⟩)
    exact decide_eq_true (by omega)
theorem ok_can {f : Addr} {fd : FuncData} (F : Fun K "can_be_joined" "can_be_joined" s_can_be_joined f fd) (T : Txt mg) : GFn P w K mg base CX0 1 f fd ["told", "left", "join"] (spCan K) := by
  refine gfun_ok F sc_can_be_joined (fun vs H Q E h => ?_) (fun cdv A outer s H vs Q E hgu hr h => ?_)
  · obtain ⟨a, b, p, told, left, ns, rfl, _⟩ := h
    rfl
  · obtain ⟨a, b, p, told, left, ns, rfl, ha, hb, hp, ne, hl, hn, ll, ln, q⟩ := h
    have nd := sc_can_be_joined.nd
    refine ⟨_, (pss_cons (ps_if (pt_not (pt_val (pe_callB (k_all (K := K) rfl) (by rfl) T.all (by decide +kernel) (pa_cons (pe_lc (own := [("node", 4)]) rfl nd (pi_tup (pv 2)) (blkOk_by (N := N_can_be_joined) (sc := defScope s_can_be_joined) (by decide +kernel)) (fun _ _ _ _ _ => (pg_name (i := 4) nd rfl (Or.inl rfl))) (fun _ _ _ _ _ => pts_nil) (fun _ _ _ _ _ => (pe_cmpR (k_in (K := K)) (pv 4) (pv 1) (by rfl)))) pa_nil)))) (pss_one (ps_ret pe_bl)) pss_nil)
      (pss_cons (ps_set (i := 3) nd rfl (Or.inr rfl) (pe_callB (k_max (K := K) rfl) (by rfl) T.max (by decide +kernel) (pa_cons (pe_lc (own := [("node", 4)]) rfl nd (pi_tup (pv 2)) (blkOk_by (N := N_can_be_joined) (sc := defScope s_can_be_joined) (by decide +kernel)) (fun _ _ _ _ _ => (pg_name (i := 4) nd rfl (Or.inl rfl))) (fun _ _ _ _ _ => pts_nil) (fun _ _ _ _ _ => (pe_ix (k_ixL (K := K)) (pv 0) (pv 4) (fun _ _ => rfl)))) pa_nil)))
      (pss_one (ps_ret (pe_callB (k_all (K := K) rfl) (by rfl) T.all (by decide +kernel) (pa_cons (pe_lc (own := [("node", 4)]) rfl nd (pi_list (pv 1)) (blkOk_by (N := N_can_be_joined) (sc := defScope s_can_be_joined) (by decide +kernel)) (fun _ _ _ _ _ => (pg_name (i := 4) nd rfl (Or.inl rfl))) (fun _ _ _ _ _ => pts_nil) (fun _ _ _ _ _ => (pe_or (pe_cmpR (k_in (K := K)) (pv 4) (pv 2) (by rfl)) (pe_one (pe_cmpR op_ge (pe_ix (k_ixL (K := K)) (pv 0) (pv 4) (fun _ _ => rfl)) (pv 3) (nomark _)))))) pa_nil)))))), ?_⟩
    refine ⟨_, rfl, p, rfl, ⟨_, hp⟩, fun D1 nD1 => ?_⟩
    refine lc_bools (walk_tup (K := K) (a := p)) ln nD1 (fun k => decide (k ∈ left)) (fun H5 s5 => sameT s5 hp) (fun k H2 hk s2 R hR => ?_) (fun H2 s2 hD2 => ?_)
    · exact ⟨_, rfl, _, rfl, b, _, rfl, .inl (s2.seq hb), rfl, flat_ints _, by rw [inV_int]; exact hR _ (Same.refl _)⟩
    · refine ⟨D1, _, rfl, SqL.of hD2, ?_⟩
      have e1 : (ns.map fun k => decide (k ∈ left)).all id = ns.all fun k => decide (k ∈ left) := by
        rw [List.all_map]
        rfl
      rw [e1]
      refine ⟨_, rfl, ?_⟩
      cases ea : (ns.all fun k => decide (k ∈ left)) with
      | false =>
        refine ifT (by rfl) ?_
        have z := q H2 s2
        unfold canI at z
        rw [ea] at z
        exact z
      | true =>
        refine ifF (by rfl) ?_
        refine ⟨_, rfl, p, rfl, ⟨_, sameT s2 hp⟩, fun D3 nD3 => ?_⟩
        refine lc_nums (walk_tup (K := K) (a := p)) ln nD3 (wt told) (fun H5 s5 => sameT (s2.trans s5) hp) (fun k H4 hk s4 R hR => ?_) (fun H4 s4 hD4 => ?_)
        · obtain ⟨k0, k1⟩ := hn k hk
          exact ⟨_, rfl, _, rfl, a, _, k.toNat, _, rfl, by rw [← int_nat k0], (s2.trans s4).seq ha, atI_nat (wt_at k0 k1), hR _ (Same.refl _)⟩
        · refine ⟨D3, _, rfl, SqL.of hD4, ?_, fun m hm1 hm2 => ?_⟩
          · rw [List.length_map]
            exact List.length_pos_iff.mpr ne
          · refine ⟨_, rfl, b, rfl, ⟨_, (s2.trans s4).seq hb⟩, fun D5 nD5 => ?_⟩
            refine lc_bools (walk_list (K := K) (a := b)) ll nD5 (fun k => decide (k ∈ ns) || decide (m ≤ wt told k)) (fun H7 s7 => (s2.trans (s4.trans s7)).seq hb) (fun k H6 hk s6 R hR => ?_) (fun H6 s6 hD6 => ?_)
            · obtain ⟨k0, k1⟩ := hl k hk
              have s06 := s2.trans (s4.trans s6)
              refine ⟨_, rfl, _, rfl, p, _, rfl, .inr (sameT s06 hp), rfl, flat_ints _, ?_⟩
              rw [inV_int]
              refine ⟨_, rfl, ?_⟩
              cases em : decide (k ∈ ns) with
              | true =>
                rw [em] at hR
                exact ifT (by rfl) (hR _ (Same.refl _))
              | false =>
                rw [em] at hR
                exact ifF (by rfl) ⟨_, rfl, _, rfl, a, _, k.toNat, _, rfl, by rw [← int_nat k0], s06.seq ha, atI_nat (wt_at k0 k1), _, rfl, _, _, rfl, rfl, hR _ (Same.refl _)⟩
            · refine ⟨D5, _, rfl, SqL.of hD6, ?_⟩
              have e3 : (left.map fun k => decide (k ∈ ns) || decide (m ≤ wt told k)).all id = okTop told left ns := by
                rw [okTop_max hm1 hm2, List.all_map]
                rfl
              rw [e3]
              have z := q H6 (s2.trans (s4.trans s6))
              unfold canI at z
              rw [ea] at z
              exact z
end
end SG

namespace SG
open PySem PySem.Spec PyProof.Rows L2
section
variable {P : Program} {w : World} {K : PySem.W.Frag} {mg : Str → Option Value} {base : Heap}
def nodesD : PyData → List Int
  | .tuple ds => ds.map intD
  | _ => []
/-- whether joins, from the first of them that is looked at, hold -/
def runD (t size : Int) (told left : List Int) : List PyData → Bool
  | [] => decide (left.length = 1)
  | D :: r => if joinD size told.length D = true ∧ canI told left (nodesD D) = true then runD t t (told ++ [sumW told (nodesD D)]) (leftI told left (nodesD D)) r else false
def rgI (n : Nat) : List Int := (List.range n).map fun (k : Nat) => (k : Int)
def firstI (t : Int) (n : Nat) : Int := if n % 2 = 0 then 2 else t
def holdD (t : Int) (ws : List Int) : PyData → Bool
  | .tuple ds => runD t (firstI t ws.length) ws (rgI ws.length) ds
  | _ => false
theorem lft_start (ws : List Int) : Lft ws (rgI ws.length) := by
  refine ⟨fun k hk => ?_, ?_⟩
  · obtain ⟨j, hj, rfl⟩ := List.mem_map.mp hk
    have := List.mem_range.mp hj
    omega
  · exact List.Pairwise.map _ (fun (a b : Nat) (h : a ≠ b) (q : (a : Int) = (b : Int)) => h (by omega)) List.nodup_range
theorem rg_len (n : Nat) : (rgI n).length = n := by unfold rgI; simp
theorem rgV_eq (n : Nat) : rgV 0 (n : Int) = (rgI n).map V.int := by
  unfold rgV rgI
  rw [List.map_map]
  have e : ((n : Int) - 0).toNat = n := by omega
  rw [e]
  apply List.map_congr_left
  intro k _
  show V.int (0 + (k : Int)) = V.int (k : Int)
  rw [Int.zero_add]
theorem join_ints {size many : Int} {D : PyData} (h : joinD size many D = true) : ∃ ds, D = .tuple ds ∧ ds = (nodesD D).map PyData.int ∧ (∀ k ∈ nodesD D, 0 ≤ k ∧ k < many) ∧ ((nodesD D).length : Int) = size ∧ ascI (nodesD D) = true := by
  cases D with
  | tuple ds =>
    simp only [joinD, Bool.and_eq_true, decide_eq_true_eq] at h
    obtain ⟨e, hb⟩ := all_below h.2.1
    exact ⟨ds, rfl, e, hb, by show ((ds.map intD).length : Int) = size; rw [List.length_map]; exact h.1, h.2.2⟩
  | _ => cases h
theorem left_len {told left ns : List Int} : (leftI told left ns).length ≤ left.length + 1 := by
  unfold leftI
  rw [List.length_append, List.length_singleton]
  have := List.length_filter_le (fun k => !decide (k ∈ ns)) left
  omega
def spHold (K : PySem.W.Frag) : Sp := fun vs H Q _ => ∃ (t : Int) (pw : Addr) (ws : List Int) (x : V) (D : PyData), vs = [.int t, .ref pw, x] ∧ 2 ≤ t ∧ t ≤ 3 ∧ SqT K H pw (ws.map V.int) ∧ ws.length ≤ 100 ∧ Dx K H x D ∧ D.bulk ≤ 800 ∧ ∀ H2, Same H H2 → Q (.bl (holdD t ws D)) H2
theorem ok_joins_hold {f f1 f2 f3 f4 f5 f6 : Addr} {fd fd1 fd2 fd3 fd4 fd5 fd6 : FuncData} (F : Fun K "joins_hold" "joins_hold" s_joins_hold f fd) (F_joined_at_first : Fun K "joined_at_first" "joined_at_first" s_joined_at_first f1 fd1) (m_joined_at_first : mg "joined_at_first" = some (.ref f1)) (b_joined_at_first : Binds K fd1 ["letters", "many"] [])
    (F_is_join : Fun K "is_join" "is_join" s_is_join f2 fd2) (m_is_join : mg "is_join" = some (.ref f2)) (b_is_join : Binds K fd2 ["thing", "size", "many"] []) (F_is_below : Fun K "is_below" "is_below" s_is_below f3 fd3) (m_is_below : mg "is_below" = some (.ref f3)) (b_is_below : Binds K fd3 ["thing", "size"] [])
    (F_is_integer : Fun K "is_integer" "is_integer" s_is_integer f4 fd4) (m_is_integer : mg "is_integer" = some (.ref f4)) (b_is_integer : Binds K fd4 ["thing"] []) (F_is_ascending : Fun K "is_ascending" "is_ascending" s_is_ascending f5 fd5) (m_is_ascending : mg "is_ascending" = some (.ref f5)) (b_is_ascending : Binds K fd5 ["things"] [])
    (F_can_be_joined : Fun K "can_be_joined" "can_be_joined" s_can_be_joined f6 fd6) (m_can_be_joined : mg "can_be_joined" = some (.ref f6)) (b_can_be_joined : Binds K fd6 ["told", "left", "join"] []) (T : Txt mg) :
    GFn P w K mg base CX0 4 f fd ["letters", "weights", "thing"] (spHold K) := by
  have G_joined_at_first : GFn P w K mg base CX0 1 f1 fd1 ["letters", "many"] spJoinedAt := ok_joined_at_first F_joined_at_first T
  have G_is_join : GFn P w K mg base CX0 3 f2 fd2 ["thing", "size", "many"] (spIsJoin K) := ok_is_join F_is_join F_is_below m_is_below b_is_below F_is_integer m_is_integer b_is_integer F_is_ascending m_is_ascending b_is_ascending T
  have G_can_be_joined : GFn P w K mg base CX0 1 f6 fd6 ["told", "left", "join"] (spCan K) := ok_can F_can_be_joined T
  refine gfun_ok F sc_joins_hold (fun vs H Q E h => ?_) (fun cdv A outer s H vs Q E hgu hr h => ?_)
  · obtain ⟨t, pw, ws, x, D, rfl, _⟩ := h
    rfl
  · obtain ⟨t, pw, ws, x, D, rfl, t2, t3, hw, lw, hd, bd, q⟩ := h
    have nd := sc_joins_hold.nd
    refine ⟨_, (pss_cons (ps_if (pt_not (pt_val (pe_callB (k_isi (K := K)) (by rfl) T.isinstance (by decide +kernel) (pa_cons (pv 2) (pa_cons (pe_bltn (v := .ty "tuple") (by rfl) T.tuple (by decide +kernel) rfl) pa_nil))))) (pss_one (ps_ret pe_bl)) pss_nil)
      (pss_cons (ps_set (i := 3) nd rfl (Or.inr rfl) (pe_callTy (k_listOf (K := K)) (by rfl) T.list (by decide +kernel) (pa_cons (pv 1) pa_nil)))
      (pss_cons (ps_set (i := 4) nd rfl (Or.inl rfl) (pe_listRg rfl (by rfl) T.list (prg_1 (by rfl) T.range (pe_callB (k_len (K := K)) (by rfl) T.len (by decide +kernel) (pa_cons (pv 1) pa_nil)))))
      (pss_cons (ps_set (i := 5) nd rfl (Or.inl rfl) (pe_g G_joined_at_first hgu (hr.mono (by decide)) (by rfl) m_joined_at_first F_joined_at_first.kp b_joined_at_first .nil pass0 (pa_cons (pv 0) (pa_cons (pe_callB (k_len (K := K)) (by rfl) T.len (by decide +kernel) (pa_cons (pv 1) pa_nil)) pa_nil))))
      (pss_cons (ps_for PassesOwn.never rfl (pi_tup (pv 2)) (pg_name (i := 6) nd rfl (Or.inr rfl))
        (pss_cons (ps_if (PW.pt (pw_or (pt_not (pt_val (pe_g G_is_join hgu (hr.mono (by decide)) (by rfl) m_is_join F_is_join.kp b_is_join .nil pass0 (pa_cons (pv 6) (pa_cons (pv 5) (pa_cons (pe_callB (k_len (K := K)) (by rfl) T.len (by decide +kernel) (pa_cons (pv 3) pa_nil)) pa_nil)))))) (pw_or1 (pt_not (pt_val (pe_g G_can_be_joined hgu (hr.mono (by decide)) (by rfl) m_can_be_joined F_can_be_joined.kp b_can_be_joined .nil pass0 (pa_cons (pv 3) (pa_cons (pv 4) (pa_cons (pv 6) pa_nil))))))))) (pss_one (ps_ret pe_bl)) pss_nil)
      (pss_cons (ps_set (i := 4) nd rfl (Or.inl rfl) (pe_op op_cat (pe_lc (own := [("node", 7)]) rfl nd (pi_list (pv 4)) (blkOk_by (N := N_joins_hold) (sc := defScope s_joins_hold) (by decide +kernel)) (fun _ _ _ _ _ => (pg_name (i := 7) nd rfl (Or.inl rfl))) (fun _ _ _ _ _ => (pts_one (pt_cmpR (k_notin (K := K)) (pv 7) (pv 6) (by rfl)))) (fun _ _ _ _ _ => (pv 7))) (pe_lst (pa_cons (pe_callB (k_len (K := K)) (by rfl) T.len (by decide +kernel) (pa_cons (pv 3) pa_nil)) pa_nil))))
      (pss_cons (ps_expr (pe_bm PySem.F.plainAttrs_list PySem.F.slot_list_append PySem.F.type_list_append mt_append (pv 3) (pa_cons (pe_callB (k_sum (K := K) rfl) (by rfl) T.sum (by decide +kernel) (pa_cons (pe_lc (own := [("node", 7)]) rfl nd (pi_tup (pv 6)) (blkOk_by (N := N_joins_hold) (sc := defScope s_joins_hold) (by decide +kernel)) (fun _ _ _ _ _ => (pg_name (i := 7) nd rfl (Or.inl rfl))) (fun _ _ _ _ _ => pts_nil) (fun _ _ _ _ _ => (pe_ix (k_ixL (K := K)) (pv 3) (pv 7) (fun _ _ => rfl)))) pa_nil)) pa_nil)))
      (pss_one (ps_set (i := 5) nd rfl (Or.inl rfl) (pv 0)))))))
      (pss_one (ps_ret (pe_cmpR op_eq (pe_callB (k_len (K := K)) (by rfl) T.len (by decide +kernel) (pa_cons (pv 4) pa_nil)) pe_int (nomark _))))))))), ?_⟩
    refine ⟨_, rfl, _, _, _, _, _, rfl, .ty "tuple", dx_ty hd, isx_tuple D, _, rfl, ?_⟩
    by_cases e : isTup D = true
    · obtain ⟨ds, rfl⟩ : ∃ ds, D = .tuple ds := by cases D <;> simp [isTup] at e ⊢
      obtain ⟨p, xs, rfl, hp, ha⟩ := dx_tuple hd
      have lx := dxA_len ha
      have bd2 : PyData.bulkAll ds ≤ 800 := by simpa only [PyData.bulk] using bd
      have lb := bulkA_len ds
      refine ifF (by rw [e]; rfl) ⟨_, rfl, pw, _, rfl, .inr hw, fun pt npt => ?_⟩
      have s1 : Same H (upd H pt (.lst (ws.map V.int))) := same_new npt
      have ht1 : upd H pt (.lst (ws.map V.int)) pt = some (.lst (ws.map V.int)) := upd_same
      generalize upd H pt (.lst (ws.map V.int)) = H1 at s1 ht1 ⊢
      refine ⟨_, rfl, pw, _, rfl, .inr (sameT s1 hw), _, rfl, RgOk.of_le (by omega) (by rw [List.length_map]; omega) (by omega) (by omega), fun pl npl => ?_⟩
      rw [List.length_map, rgV_eq]
      have s2 : Same H1 (upd H1 pl (.lst ((rgI ws.length).map V.int))) := same_new npl
      have ht2 := s2 _ _ ht1
      have hl2 : upd H1 pl (.lst ((rgI ws.length).map V.int)) pl = some (.lst ((rgI ws.length).map V.int)) := upd_same
      have tl : pt ≠ pl := ne_of_none ht1 npl
      have nl0 : H pl = none := s1.free npl
      have s02 := s1.trans s2
      generalize upd H1 pl (.lst ((rgI ws.length).map V.int)) = H2 at s02 ht2 hl2 ⊢
      refine ⟨_, rfl, _, rfl, pw, _, rfl, .inr (sameT s02 hw), t, ws.length, by rw [List.length_map]; rfl, ?_⟩
      have few : ∀ {i : Nat} {Di : PyData}, ds[i]? = some Di → ∀ es, Di = .tuple es → es.length ≤ 1000 := by
        intro i Di hi es e2
        have b1 := bulkA_mem (List.mem_of_getElem? hi)
        rw [e2] at b1
        simp only [PyData.bulk] at b1
        have b2 := bulkA_len es
        omega
      refine ⟨_, rfl, p, rfl, ⟨_, sameT s02 hp⟩, for_it (walk_tup (K := K) (a := p) (xs := xs)) (fun i σ HI => ∃ (told left : List Int) (pl : Addr) (size : Int) (y6 y7 : Option V), σ = [some (.int t), some (.ref pw), some (.ref p), some (.ref pt), some (.ref pl), some (.int size), y6, y7] ∧ Same H HI ∧ HI pt = some (.lst (told.map V.int)) ∧
        HI pl = some (.lst (left.map V.int)) ∧ pt ≠ pl ∧ Lft told left ∧ told.length = ws.length + i ∧ left.length ≤ ws.length + i ∧ 2 ≤ size ∧ runD t size told left (ds.drop i) = holdD t ws (.tuple ds))
        ⟨ws, rgI ws.length, pl, _, none, none, rfl, s02, ht2, hl2, tl, lft_start ws, rfl, by rw [rg_len]; omega, by show 2 ≤ firstI t ws.length; unfold firstI; split <;> omega, rfl⟩ (fun i σ HI _ ⟨_, _, _, _, _, _, _, s3, _⟩ => sameT s3 hp) ?_ ?_⟩
      · rintro i y σ HI HJ hi ⟨told, left, pl, size, y6, y7, rfl, sI, hT, hL, tp, lf, lt, ll, sz, run⟩ ⟨rfl, hy⟩
        obtain ⟨Di, h1, h2⟩ := dxA_get (dxA_same sI ha) hy
        have hid : i < ds.length := by omega
        have edrop : ds.drop i = Di :: ds.drop (i + 1) := by
          rw [List.drop_eq_getElem_cons hid]
          rw [List.getElem?_eq_getElem hid] at h1
          rw [Option.some.inj h1]
        rw [edrop] at run
        have no : ∀ HZ, Same H HZ → ¬ (joinD size told.length Di = true ∧ canI told left (nodesD Di) = true) → Q (.bl false) HZ := by
          intro HZ sZ h
          have z := q HZ sZ
          rw [← run] at z
          unfold runD at z
          rw [if_neg h] at z
          exact z
        refine ⟨_, rfl, _, rfl, _, rfl, pt, _, rfl, .inl (SqL.of hT), y, Di, size, _, rfl, h2, few h1, fun H4 s4 => ?_⟩
        rw [List.length_map]
        have s04 := sI.trans s4
        cases ej : joinD size told.length Di with
        | false => exact ⟨_, rfl, ifT (by rfl) (ifT (by rfl) (no _ s04 (fun z => by rw [ej] at z; exact absurd z.1 nofun)))⟩
        | true =>
          obtain ⟨es, rfl, ee, hb, hlen, hasc⟩ := join_ints ej
          obtain ⟨py, ys, rfl, hpy, hay⟩ := dx_tuple (dx_same s4 h2)
          have hys : ys = (nodesD (.tuple es)).map V.int := by
            rw [ee] at hay
            exact dxA_ints hay
          rw [hys] at hpy
          generalize hns : nodesD (.tuple es) = ns at *
          have ln : ns.length ≤ 1000 := by
            have := few h1 es rfl
            rw [← hns]
            show (es.map intD).length ≤ 1000
            rw [List.length_map]
            exact this
          have ne : ns ≠ [] := fun z => by rw [z] at hlen; simp at hlen; omega
          refine ⟨_, rfl, ifF (by rfl) ⟨_, rfl, _, rfl, _, rfl, pt, pl, py, told, left, ns, rfl, s4.seq (SqL.of hT), s4.seq (SqL.of hL), hpy, ne, lf.lo, fun k hk => hb k hk, by omega, ln, fun H5 s5 => ?_⟩⟩
          have s05 := s04.trans s5
          cases ec : canI told left ns with
          | false => exact ⟨_, rfl, ifT (by rfl) (no _ s05 (fun z => by rw [ec] at z; exact absurd z.2 nofun))⟩
          | true =>
            refine ⟨_, rfl, ifF (by rfl) ?_⟩
            have hT5 := (s4.trans s5) _ _ hT
            have hL5 := (s4.trans s5) _ _ hL
            have hp5 := sameT s5 hpy
            refine ⟨_, rfl, pl, rfl, ⟨_, SqL.of hL5⟩, fun D1 nD1 => ?_⟩
            refine lc_pass (walk_list (K := K) (a := pl)) (by omega) (by rw [List.length_set]; show 7 < 8; decide) nD1 (fun k => !decide (k ∈ ns)) (fun H7 s7 => s7.seq (SqL.of hL5)) (fun k H6 hk s6 R hR => ?_) (fun H6 s6 hD6 => ?_)
            · exact ⟨_, rfl, _, rfl, py, _, rfl, .inr (sameT s6 hp5), rfl, flat_ints _, by rw [inV_int]; exact ⟨_, rfl, hR _ (Same.refl _)⟩⟩
            · have hT6 := s6 _ _ hT5
              refine ⟨_, rfl, pt, _, rfl, .inl (SqL.of hT6), by show 1 ≤ sizeLine; decide, fun r nr => ?_⟩
              have s7 : Same H6 (upd H6 r (.lst [.int ((told.map V.int).length : Nat)])) := same_new nr
              refine ⟨D1, r, _, _, rfl, rfl, s7 _ _ hD6, upd_same, ?_, fun pl2 npl2 => ?_⟩
              · have := List.length_filter_le (fun k => !decide (k ∈ ns)) left
                rw [List.length_map, List.length_singleton]
                exact Nat.le_of_lt (small1000 (by omega))
              · have eL : (left.filter fun k => !decide (k ∈ ns)).map V.int ++ [V.int ((told.map V.int).length : Nat)] = (leftI told left ns).map V.int := by
                  unfold leftI
                  rw [List.map_append, List.length_map]
                  rfl
                rw [eL]
                have s8 := s7.trans (same_new (o := .lst ((leftI told left ns).map V.int)) npl2)
                have hT8 := s8 _ _ hT6
                have hL8 : upd (upd H6 r (.lst [.int ((told.map V.int).length : Nat)])) pl2 (.lst ((leftI told left ns).map V.int)) pl2 = some (.lst ((leftI told left ns).map V.int)) := upd_same
                have hp8 := sameT (s6.trans s8) hp5
                have s08 := s05.trans (s6.trans s8)
                have tp2 : pt ≠ pl2 := ne_of_none (s7 _ _ hT6) npl2
                generalize upd (upd H6 r (.lst [.int ((told.map V.int).length : Nat)])) pl2 (.lst ((leftI told left ns).map V.int)) = H8 at hT8 hL8 hp8 s08 ⊢
                refine ⟨_, rfl, .inl ⟨rfl, _, SqL.of hT8⟩, ?_⟩
                refine ⟨_, rfl, py, rfl, ⟨_, hp8⟩, fun D2 nD2 => ?_⟩
                refine lc_nums (walk_tup (K := K) (a := py)) ln nD2 (wt told) (fun H9 s9 => sameT s9 hp8) (fun k H9 hk s9 R hR => ?_) (fun H9 s9 hD9 => ?_)
                · obtain ⟨k0, k1⟩ := hb k hk
                  exact ⟨_, rfl, _, rfl, pt, _, k.toNat, _, rfl, by rw [← int_nat k0], s9.seq (SqL.of hT8), atI_nat (wt_at k0 k1), hR _ (Same.refl _)⟩
                · have hT9 := s9 _ _ hT8
                  have hL9 := s9 _ _ hL8
                  refine ⟨D2, _, rfl, SqL.of hD9, pt, _, _, rfl, rfl, hT9, ?_, ?_⟩
                  · rw [List.length_map]
                    exact small1000 (by omega)
                  · have eT : told.map V.int ++ [V.int (ns.map (wt told)).sum] = (told ++ [sumW told ns]).map V.int := by
                      rw [List.map_append]
                      rfl
                    rw [eT]
                    have sF : Same H (upd H9 pt (.lst ((told ++ [sumW told ns]).map V.int))) := same_upd_of (s08.trans s9) npt
                    refine ⟨_, rfl, told ++ [sumW told ns], leftI told left ns, pl2, t, _, _, rfl, sF, upd_same, ?_, tp2, lf.next, ?_, ?_, t2, ?_⟩
                    · rw [upd_ne (Ne.symm tp2)]
                      exact hL9
                    · rw [List.length_append, List.length_singleton]
                      omega
                    · have := left_len (told := told) (left := left) (ns := ns)
                      omega
                    · rw [← run]
                      show runD t t (told ++ [sumW told ns]) (leftI told left ns) (ds.drop (i + 1)) = if joinD size told.length (.tuple es) = true ∧ canI told left (nodesD (.tuple es)) = true then runD t t (told ++ [sumW told (nodesD (.tuple es))]) (leftI told left (nodesD (.tuple es))) (ds.drop (i + 1)) else false
                      rw [hns, if_pos ⟨ej, ec⟩]
      · rintro σ HI ⟨told, left, pl, size, y6, y7, rfl, sI, hT, hL, tp, lf, lt, ll, sz, run⟩
        have e0 : ds.drop xs.length = [] := List.drop_eq_nil_of_le (by omega)
        rw [e0] at run
        refine ⟨_, rfl, pl, _, rfl, .inl (SqL.of hL), rfl, ?_⟩
        have z := q HI sI
        rw [← run] at z
        have e3 : decide (V.int ((left.map V.int).length : Nat) = V.int 1) = decide (left.length = 1) := by
          rw [dec_int, List.length_map, Bool.eq_iff_iff, beq_iff_eq, decide_eq_true_eq]
          omega
        rw [e3]
        exact z
    · refine ifT (by simp [e]) ?_
      have z := q H (Same.refl H)
      have e2 : holdD t ws D = false := by cases D <;> simp [isTup, holdD] at e ⊢
      rw [e2] at z
      exact z
end
end SG

/-! What is picked as lightest may be joined. -/
namespace SG
theorem perm_sum {a b : List Int} (p : a.Perm b) : a.sum = b.sum := by
  induction p with
  | nil => rfl
  | cons x _ ih => simp only [List.sum_cons, ih]
  | swap x y l => simp only [List.sum_cons]; omega
  | trans _ _ h1 h2 => exact h1.trans h2
def prI (told : List Int) (k : Int) : Int × Int := (wt told k, k)
theorem pr_snd (told left : List Int) : (left.map (prI told)).map (·.2) = left := by
  rw [List.map_map]
  exact List.map_id left
theorem strict_of {ns : List Int} (h : ns.Pairwise (· ≤ ·)) (nd : ns.Nodup) : ns.Pairwise (· < ·) := by
  induction ns with
  | nil => exact .nil
  | cons a r ih =>
    have h2 := List.pairwise_cons.mp h
    have n2 := List.nodup_cons.mp nd
    refine .cons (fun x hx => ?_) (ih h2.2 n2.2)
    have := h2.1 x hx
    have : a ≠ x := fun z => n2.1 (by rw [z]; exact hx)
    omega
theorem pick_ok {told left ns : List Int} {ch rest : List (Int × Int)} (hp : (ch ++ rest).Perm (left.map (prI told))) (hle : ∀ c ∈ ch, ∀ r ∈ rest, c.1 ≤ r.1) (nd : left.Nodup) (hn : ns.Perm (ch.map (·.2))) (ha : ns.Pairwise (· ≤ ·)) :
    ns.length = ch.length ∧ canI told left ns = true ∧ ascI ns = true ∧ (ch.map (·.1)).sum = sumW told ns := by
  have hp2 : ((ch ++ rest).map (·.2)).Perm left := by
    have z := hp.map (·.2)
    rw [pr_snd] at z
    exact z
  have ndc : ((ch ++ rest).map (·.2)).Nodup := hp2.nodup_iff.mpr nd
  rw [List.map_append] at ndc hp2
  have ndn : ns.Nodup := hn.nodup_iff.mpr (List.nodup_append.mp ndc).1
  have fst : ∀ c ∈ ch ++ rest, c.1 = wt told c.2 := by
    intro c hc
    obtain ⟨k, _, e⟩ := List.mem_map.mp (hp.mem_iff.mp hc)
    rw [← e]
    rfl
  refine ⟨by rw [hn.length_eq, List.length_map], ?_, asc_of (strict_of ha ndn), ?_⟩
  · unfold canI okTop
    rw [Bool.and_eq_true, List.all_eq_true, List.all_eq_true]
    constructor
    · intro k hk
      exact decide_eq_true (hp2.mem_iff.mp (List.mem_append_left _ (hn.mem_iff.mp hk)))
    · intro k hk
      rw [Bool.or_eq_true, List.all_eq_true]
      by_cases hkn : k ∈ ns
      · exact .inl (decide_eq_true hkn)
      · refine .inr fun j hj => ?_
        have hk2 := hp2.mem_iff.mpr hk
        rcases List.mem_append.mp hk2 with h | h
        · exact absurd (hn.mem_iff.mpr h) hkn
        · obtain ⟨r, hr, rfl⟩ := List.mem_map.mp h
          obtain ⟨c, hc, rfl⟩ := List.mem_map.mp (hn.mem_iff.mp hj)
          have := hle c hc r hr
          rw [fst c (List.mem_append_left _ hc), fst r (List.mem_append_right _ hr)] at this
          exact decide_eq_true this
  · have e : ch.map (·.1) = (ch.map (·.2)).map (wt told) := by
      rw [List.map_map]
      exact List.map_congr_left fun c hc => fst c (List.mem_append_left _ hc)
    rw [e]
    exact (perm_sum (hn.map (wt told))).symm
/-- how many may be left when so many are to be joined -/
def OkN (t size : Int) (n : Nat) : Prop := 1 ≤ n ∧ ((t = 2 ∧ size = 2) ∨ (t = 3 ∧ size = 2 ∧ n % 2 = 0) ∨ (t = 3 ∧ size = 3 ∧ n % 2 = 1))
theorem OkN.start {t : Int} {n : Nat} (h : t = 2 ∨ t = 3) (hn : 1 ≤ n) : OkN t (firstI t n) n := by
  refine ⟨hn, ?_⟩
  unfold firstI
  split <;> omega
theorem OkN.fits {t size : Int} {n : Nat} (h : OkN t size n) (h1 : 1 < n) : size ≤ n ∧ 2 ≤ size ∧ size ≤ 3 := by
  obtain ⟨_, h⟩ := h
  omega
theorem OkN.next {t size : Int} {n m : Nat} (h : OkN t size n) (h1 : 1 < n) (e : (m : Int) + size = n + 1) : OkN t t m := by
  obtain ⟨_, h⟩ := h
  unfold OkN
  omega
end SG

namespace SG
open PySem PySem.Spec PyProof.Rows L2
section
variable {P : Program} {w : World} {K : PySem.W.Frag} {mg : Str → Option Value} {base : Heap}
def tupD (ns : List Int) : PyData := .tuple (dI ns)
theorem nodes_tup (ns : List Int) : nodesD (tupD ns) = ns := by
  show (ns.map PyData.int).map intD = ns
  rw [List.map_map]
  exact List.map_id ns
theorem join_tup {size : Int} {many : Nat} {ns : List Int} (hl : (ns.length : Int) = size) (hb : ∀ k ∈ ns, 0 ≤ k ∧ k < many) (ha : ascI ns = true) : joinD size many (tupD ns) = true := by
  show (decide (((ns.map PyData.int).length : Int) = size) && ((ns.map PyData.int).all (belowD many) && ascI ((ns.map PyData.int).map intD))) = true
  have e1 : (ns.map PyData.int).map intD = ns := nodes_tup ns
  rw [e1, List.length_map, decide_eq_true hl, ha, Bool.true_and, Bool.and_true, List.all_map, List.all_eq_true]
  intro k hk
  obtain ⟨k0, k1⟩ := hb k hk
  show (decide (0 ≤ k) && decide (k < (many : Int))) = true
  rw [decide_eq_true k0, decide_eq_true k1]
  rfl
/-- joins that hold so far, and what they lead to -/
def preD (t size0 : Int) (ws left0 : List Int) (nss : List (List Int)) (size : Int) (told left : List Int) : Prop := ∀ r : List PyData, runD t size0 ws left0 (nss.map tupD ++ r) = runD t size told left r
theorem preD.next {t size0 size : Int} {ws left0 told left ns : List Int} {nss : List (List Int)} (h : preD t size0 ws left0 nss size told left) (hl : (ns.length : Int) = size) (lf : Lft told left) (hc : canI told left ns = true) (ha : ascI ns = true) :
    preD t size0 ws left0 (nss ++ [ns]) t (told ++ [sumW told ns]) (leftI told left ns) := by
  intro r
  rw [List.map_append, List.append_assoc, h]
  have hb : ∀ k ∈ ns, 0 ≤ k ∧ k < told.length := by
    intro k hk
    unfold canI at hc
    rw [Bool.and_eq_true, List.all_eq_true] at hc
    exact lf.lo k (of_decide_eq_true (hc.1 k hk))
  show (if joinD size told.length (tupD ns) = true ∧ canI told left (nodesD (tupD ns)) = true then _ else false) = _
  rw [nodes_tup, if_pos ⟨join_tup hl hb ha, hc⟩]
  rfl
/-- a tuple of tuples of whole numbers -/
def JnAt (K : PySem.W.Frag) (H : Hp) (xs : List V) (nss : List (List Int)) : Prop := Paired (fun (x : V) (ns : List Int) => ∃ a, x = .ref a ∧ SqT K H a (ns.map V.int)) xs nss
theorem JnAt.keep {H H2 : Hp} (k : ∀ a ys, SqT K H a ys → SqT K H2 a ys) : ∀ {xs : List V} {nss : List (List Int)}, JnAt K H xs nss → JnAt K H2 xs nss
  | _, _, .nil => .nil
  | _, _, .cons ⟨a, e, h⟩ r => .cons ⟨a, e, k _ _ h⟩ (JnAt.keep k r)
theorem JnAt.len {H : Hp} : ∀ {xs : List V} {nss : List (List Int)}, JnAt K H xs nss → xs.length = nss.length
  | _, _, .nil => rfl
  | _, _, .cons _ r => congrArg (· + 1) (JnAt.len r)
theorem JnAt.snoc {H : Hp} {x : V} {ns : List Int} : ∀ {xs : List V} {nss : List (List Int)}, JnAt K H xs nss → (∃ a, x = .ref a ∧ SqT K H a (ns.map V.int)) → JnAt K H (xs ++ [x]) (nss ++ [ns])
  | _, _, .nil, h => .cons h .nil
  | _, _, .cons a r, h => .cons a (JnAt.snoc r h)
theorem JnAt.dx {H : Hp} : ∀ {xs : List V} {nss : List (List Int)}, JnAt K H xs nss → DxAll K H xs (nss.map tupD)
  | _, _, .nil => .nil
  | _, _, .cons ⟨a, e, h⟩ r => by
    subst e
    exact .cons (.tup h (dxA_dp (dpInts _))) (JnAt.dx r)
theorem JnAt.dy {d l : Addr} {H : Hp} : ∀ {xs : List V} {nss : List (List Int)}, JnAt K H xs nss → DyAll K d l H xs (nss.map tupD)
  | _, _, .nil => .nil
  | _, _, .cons ⟨a, e, h⟩ r => by
    subst e
    exact .cons (.tup h (dyA_ints _)) (JnAt.dy r)
/-- the objects ys are the pairs qs, new ones -/
def PrT (H : Hp) (ys : List V) (qs : List (Int × Int)) : Prop := Paired (fun (y : V) (q : Int × Int) => ∃ t, y = .ref t ∧ H t = some (.tup [.int q.1, .int q.2])) ys qs
theorem PrT.keep {H H2 : Hp} (k : Tups H H2) : ∀ {ys : List V} {qs : List (Int × Int)}, PrT H ys qs → PrT H2 ys qs
  | _, _, .nil => .nil
  | _, _, .cons ⟨t, e, h⟩ r => .cons ⟨t, e, k _ _ h (fun _ z => nomatch z)⟩ (PrT.keep k r)
theorem PrT.len {H : Hp} : ∀ {ys : List V} {qs : List (Int × Int)}, PrT H ys qs → ys.length = qs.length
  | _, _, .nil => rfl
  | _, _, .cons _ r => congrArg (· + 1) (PrT.len r)
theorem PrT.snoc {H : Hp} {y : V} {q : Int × Int} : ∀ {ys : List V} {qs : List (Int × Int)}, PrT H ys qs → (∃ t, y = .ref t ∧ H t = some (.tup [.int q.1, .int q.2])) → PrT H (ys ++ [y]) (qs ++ [q])
  | _, _, .nil, h => .cons h .nil
  | _, _, .cons a r, h => .cons a (PrT.snoc r h)
theorem PrT.take {H : Hp} : ∀ {ys : List V} {qs : List (Int × Int)} (n : Nat), PrT H ys qs → PrT H (ys.take n) (qs.take n)
  | _, _, 0, _ => .nil
  | _, _, _ + 1, .nil => .nil
  | _, _, n + 1, .cons a r => .cons a (PrT.take n r)
theorem PrT.get {H : Hp} : ∀ {ys : List V} {qs : List (Int × Int)} {i : Nat} {y : V}, PrT H ys qs → ys[i]? = some y → ∃ q t, qs[i]? = some q ∧ y = .ref t ∧ H t = some (.tup [.int q.1, .int q.2])
  | _, _, _, _, .nil, e => by simp at e
  | _, _, 0, _, .cons ⟨t, a, h⟩ r, e => by
    simp at e
    subst e
    exact ⟨_, t, rfl, a, h⟩
  | _, _, i + 1, y, .cons a r, e => by
    obtain ⟨q, t, h1, h2, h3⟩ := PrT.get (i := i) (y := y) r (by simpa using e)
    exact ⟨q, t, by simpa using h1, h2, h3⟩
def kH (H : Hp) (y : V) : Int × Int := match y with
  | .ref t => match H t with
    | some (.tup [.int i, .int j]) => (i, j)
    | _ => (0, 0)
  | _ => (0, 0)
theorem kH_of {H : Hp} {t : Addr} {i j : Int} (h : H t = some (.tup [.int i, .int j])) : kH H (.ref t) = (i, j) := by
  unfold kH
  simp only [h]
theorem PrT.keys {H : Hp} : ∀ {ys : List V} {qs : List (Int × Int)}, PrT H ys qs → ys.map (kH H) = qs
  | _, _, .nil => rfl
  | _, _, .cons ⟨t, e, h⟩ r => by
    subst e
    rw [List.map_cons, PrT.keys r, kH_of h]
theorem PrT.mem {H : Hp} : ∀ {ys : List V} {qs : List (Int × Int)}, PrT H ys qs → ∀ y ∈ ys, ∃ t, y = .ref t ∧ H t = some (.tup [.int (kH H y).1, .int (kH H y).2])
  | _, _, .cons ⟨t, e, h⟩ r, y, hy => by
    rcases List.mem_cons.mp hy with rfl | hy
    · subst e
      exact ⟨t, rfl, by rw [kH_of h]; exact h⟩
    · exact PrT.mem r y hy
theorem PrT.of_keys {H : Hp} : ∀ {ys : List V}, (∀ y ∈ ys, ∃ t, y = .ref t ∧ H t = some (.tup [.int (kH H y).1, .int (kH H y).2])) → PrT H ys (ys.map (kH H))
  | [], _ => .nil
  | y :: ys, h => .cons (h y List.mem_cons_self) (PrT.of_keys fun z hz => h z (List.mem_cons_of_mem _ hz))
/-- pairs of a weight and its node -/
theorem lc_weigh {J : It} {G : Hp → Prop} {ns : List Int} {te : TE} {s : Nat} {σ : L2.St} {H1 : Hp} {D : Addr} {Qd : Hp → Prop} (w : Walk J (ns.map V.int).length G (YAt (ns.map V.int))) (hn : ns.length ≤ 1000) (hD : H1 D = none) (g : Int → Int × Int) (hG : ∀ H, Same H1 H → G H)
    (turn : ∀ (k : Int) (H2 : Hp), k ∈ ns → Same H1 H2 → ∀ R : VK, (∀ t, H2 t = none → R (.ref t) (upd H2 t (.tup [.int (g k).1, .int (g k).2]))) → te ((wipe σ [s]).set s (some (.int k))) H2 R)
    (done : ∀ (ys : List V) (H2 : Hp), Same H1 H2 → H2 D = some (.lst ys) → PrT H2 ys (ns.map g) → Qd H2) :
    ∃ W : Nat → Nat → Hp → Prop, (∃ m, W 0 m (upd H1 D (.lst []))) ∧ ∀ i m H, W i m H →
      (J.stop i H ∧ Qd H) ∨ (J.go i H ∧ ∃ Nx : Hp → Prop, (∀ H', Nx H' → ∃ m', m' < m ∧ W (i + 1) m' H') ∧ ∀ x H', J.yld i H x H' → gName s x (wipe σ [s]) H' fun σ2 H2 => wipe σ2 [s] = wipe σ [s] ∧ tYes σ2 H2 fun b H3 =>
        if b = true then te σ2 H3 fun y H4 => ∃ acc, H4 D = some (.lst acc) ∧ acc.length < sizeLine ∧ Nx (upd H4 D (.lst (acc ++ [y]))) else Nx H3) := by
  refine lc_same w (by rw [List.length_map]; exact hn) hD (fun i acc H => PrT H acc ((ns.map g).take i)) .nil (fun _ _ _ _ k h => h.keep k) hG ?_ ?_
  · rintro i x acc H5 H6 hi s5 pr ⟨rfl, hx⟩ R N hR hN
    obtain ⟨k, rfl, hk⟩ := get_int hx
    refine ⟨wipe1 _ _ _, ?_⟩
    refine yesI (A := fun H7 => _) ?_
    refine turn k _ (List.mem_of_getElem? hk) s5 _ fun t nt => hR _ _ (same_new nt) ?_
    have e : (ns.map g).take (i + 1) = (ns.map g).take i ++ [g k] := by
      rw [List.take_add_one, List.getElem?_map, hk]
      rfl
    rw [e]
    exact (pr.keep (.of (same_new nt))).snoc ⟨t, rfl, upd_same⟩
  · rintro acc H5 s5 hl hD1 pr
    rw [List.length_map, List.take_of_length_le (by rw [List.length_map]; exact Nat.le_refl _)] at pr
    exact done acc H5 s5 hD1 pr
/-- one part of each of some pairs -/
theorem lc_part {b D : Addr} {ys : List V} {qs : List (Int × Int)} {te : TE} {s1 s2 : Nat} {σ : L2.St} {H1 : Hp} {Qd : Hp → Prop} (hS : SqL K H1 b ys) (hq : PrT H1 ys qs) (hn : ys.length ≤ 1000) (hD : H1 D = none) (g : Int × Int → Int)
    (turn : ∀ (q : Int × Int) (H2 : Hp) (R : VK), R (.int (g q)) H2 → te (((wipe σ [s1, s2]).set s1 (some (.int q.1))).set s2 (some (.int q.2))) H2 R)
    (done : ∀ H2, Same H1 H2 → H2 D = some (.lst ((qs.map g).map V.int)) → Qd H2) :
    ∃ W : Nat → Nat → Hp → Prop, (∃ m, W 0 m (upd H1 D (.lst []))) ∧ ∀ i m H, W i m H →
      ((Itl K b).stop i H ∧ Qd H) ∨ ((Itl K b).go i H ∧ ∃ Nx : Hp → Prop, (∀ H', Nx H' → ∃ m', m' < m ∧ W (i + 1) m' H') ∧ ∀ x H', (Itl K b).yld i H x H' → gTup K 2 (gCons (gName s1) (gCons (gName s2) gNil)) x (wipe σ [s1, s2]) H' fun σ2 H2 => wipe σ2 [s1, s2] = wipe σ [s1, s2] ∧ tYes σ2 H2 fun b H3 =>
        if b = true then te σ2 H3 fun y H4 => ∃ acc, H4 D = some (.lst acc) ∧ acc.length < sizeLine ∧ Nx (upd H4 D (.lst (acc ++ [y]))) else Nx H3) := by
  refine lc_same (walk_list (K := K) (a := b) (xs := ys)) hn hD (fun i acc _ => acc = ((qs.map g).take i).map V.int) rfl (fun _ _ _ _ _ h => h) (fun H5 s5 => s5.seq hS) ?_ ?_
  · rintro i x acc H5 H6 hi s5 rfl ⟨rfl, hx⟩ R N hR hN
    obtain ⟨q, t, h1, rfl, h3⟩ := hq.get hx
    refine ⟨t, _, rfl, .inl (.inl (s5 _ _ h3)), rfl, _, _, rfl, _, _, rfl, rfl, wipe2 _ _ _ _ _, ?_⟩
    refine yesI (A := fun H7 => _) ?_
    refine turn q _ _ (hR _ _ (Same.refl _) ?_)
    rw [List.take_add_one, List.getElem?_map, h1]
    simp
  · rintro acc H5 s5 hl hD1 rfl
    rw [List.take_of_length_le (by rw [List.length_map, ← hq.len]; exact Nat.le_refl _)] at hD1
    exact done H5 s5 hD1
/-- small enough joins of so many weights that hold -/
structure GoodJ (t : Int) (ws : List Int) (nss : List (List Int)) : Prop where
  hold : holdD t ws (.tuple (nss.map tupD)) = true
  few : nss.length ≤ ws.length
  each : ∀ ns ∈ nss, ns.length ≤ 3 ∧ ∀ k ∈ ns, 0 ≤ k ∧ k < 2 * ws.length
def spJoins (K : PySem.W.Frag) : Sp := fun vs H Q _ => ∃ (t : Int) (pw : Addr) (ws : List Int), vs = [.int t, .ref pw] ∧ (t = 2 ∨ t = 3) ∧ SqT K H pw (ws.map V.int) ∧ 1 ≤ ws.length ∧ ws.length ≤ 100 ∧
  ∀ (p : Addr) (xs : List V) (nss : List (List Int)) (H2 : Hp), Same H H2 → SqT K H2 p xs → JnAt K H2 xs nss → GoodJ t ws nss → Q (.ref p) H2
theorem sqT_two {H : Hp} {a p r : Addr} {xs ys zs : List V} {o1 o2 : HO} (h1 : H p = some (.lst xs)) (h2 : H r = some (.lst ys)) (h : SqT K H a zs) : SqT K (upd (upd H p o1) r o2) a zs := by
  rcases h with (h | ⟨o, h⟩) | h
  · exact .inl (.inl (by rw [upd_ne (ne_of h h2 nofun), upd_ne (ne_of h h1 nofun)]; exact h))
  · exact .inl (.inr ⟨o, by rw [upd_ne (ne_of h h2 nofun), upd_ne (ne_of h h1 nofun)]; exact h⟩)
  · exact .inr h
theorem ok_joins_for {f f1 : Addr} {fd fd1 : FuncData} (F : Fun K "joins_for" "joins_for" s_joins_for f fd) (F_joined_at_first : Fun K "joined_at_first" "joined_at_first" s_joined_at_first f1 fd1) (m_joined_at_first : mg "joined_at_first" = some (.ref f1)) (b_joined_at_first : Binds K fd1 ["letters", "many"] []) (T : Txt mg) :
    GFn P w K mg base CX0 2 f fd ["letters", "weights"] (spJoins K) := by
  have G_joined_at_first : GFn P w K mg base CX0 1 f1 fd1 ["letters", "many"] spJoinedAt := ok_joined_at_first F_joined_at_first T
  refine gfun_ok F sc_joins_for (fun vs H Q E h => ?_) (fun cdv A outer s H vs Q E hgu hr h => ?_)
  · obtain ⟨t, pw, ws, rfl, _⟩ := h
    rfl
  · obtain ⟨t, pw, ws, rfl, ht23, hw, l1, lw, q⟩ := h
    have nd := sc_joins_for.nd
    refine ⟨_, (pss_cons (ps_set (i := 2) nd rfl (Or.inr rfl) (pe_callTy (k_listOf (K := K)) (by rfl) T.list (by decide +kernel) (pa_cons (pv 1) pa_nil)))
      (pss_cons (ps_set (i := 3) nd rfl (Or.inl rfl) (pe_listRg rfl (by rfl) T.list (prg_1 (by rfl) T.range (pe_callB (k_len (K := K)) (by rfl) T.len (by decide +kernel) (pa_cons (pv 1) pa_nil)))))
      (pss_cons (ps_set (i := 4) nd rfl (Or.inl rfl) (pe_lst pa_nil))
      (pss_cons (ps_set (i := 5) nd rfl (Or.inl rfl) (pe_g G_joined_at_first hgu (hr.mono (by decide)) (by rfl) m_joined_at_first F_joined_at_first.kp b_joined_at_first .nil pass0 (pa_cons (pv 0) (pa_cons (pe_callB (k_len (K := K)) (by rfl) T.len (by decide +kernel) (pa_cons (pv 1) pa_nil)) pa_nil))))
      (pss_cons (ps_while PassesOwn.never (pt_cmpR op_gt (pe_callB (k_len (K := K)) (by rfl) T.len (by decide +kernel) (pa_cons (pv 3) pa_nil)) pe_int (nomark _)) (pss_cons (ps_set (i := 6) nd rfl (Or.inl rfl) (pe_slice (k_slL (K := K)) (pe_callB (k_sortPO (K := K)) (by rfl) T.sorted (by decide +kernel) (pa_cons (pe_lc (own := [("node", 8)]) rfl nd (pi_list (pv 3)) (blkOk_by (N := N_joins_for) (sc := defScope s_joins_for) (by decide +kernel)) (fun _ _ _ _ _ => (pg_name (i := 8) nd rfl (Or.inl rfl))) (fun _ _ _ _ _ => pts_nil) (fun _ _ _ _ _ => (pe_tup (pa_cons (pe_ix (k_ixL (K := K)) (pv 2) (pv 8) (fun _ _ => rfl)) (pa_cons (pv 8) pa_nil))))) pa_nil)) po_none (po_some (pv 5))))
      (pss_cons (ps_set (i := 7) nd rfl (Or.inr rfl) (pe_callTy (k_tupOf (K := K)) (by rfl) T.tuple (by decide +kernel) (pa_cons (pe_callB (k_sortI (K := K)) (by rfl) T.sorted (by decide +kernel) (pa_cons (pe_lc (own := [("_", 9), ("node", 8)]) rfl nd (pi_list (pv 6)) (blkOk_by (N := N_joins_for) (sc := defScope s_joins_for) (by decide +kernel)) (fun _ _ _ _ _ => (k_tg (K := K) (n := 2) rfl (pgs_cons (pg_name (i := 9) nd rfl (Or.inl rfl)) (pgs_cons (pg_name (i := 8) nd rfl (Or.inl rfl)) pgs_nil)))) (fun _ _ _ _ _ => pts_nil) (fun _ _ _ _ _ => (pv 8))) pa_nil)) pa_nil)))
      (pss_cons (ps_set (i := 3) nd rfl (Or.inl rfl) (pe_op op_cat (pe_lc (own := [("node", 8)]) rfl nd (pi_list (pv 3)) (blkOk_by (N := N_joins_for) (sc := defScope s_joins_for) (by decide +kernel)) (fun _ _ _ _ _ => (pg_name (i := 8) nd rfl (Or.inl rfl))) (fun _ _ _ _ _ => (pts_one (pt_cmpR (k_notin (K := K)) (pv 8) (pv 7) (by rfl)))) (fun _ _ _ _ _ => (pv 8))) (pe_lst (pa_cons (pe_callB (k_len (K := K)) (by rfl) T.len (by decide +kernel) (pa_cons (pv 2) pa_nil)) pa_nil))))
      (pss_cons (ps_expr (pe_bm PySem.F.plainAttrs_list PySem.F.slot_list_append PySem.F.type_list_append mt_append (pv 2) (pa_cons (pe_callB (k_sum (K := K) rfl) (by rfl) T.sum (by decide +kernel) (pa_cons (pe_lc (own := [("weight", 10), ("_", 9)]) rfl nd (pi_list (pv 6)) (blkOk_by (N := N_joins_for) (sc := defScope s_joins_for) (by decide +kernel)) (fun _ _ _ _ _ => (k_tg (K := K) (n := 2) rfl (pgs_cons (pg_name (i := 10) nd rfl (Or.inl rfl)) (pgs_cons (pg_name (i := 9) nd rfl (Or.inl rfl)) pgs_nil)))) (fun _ _ _ _ _ => pts_nil) (fun _ _ _ _ _ => (pv 10))) pa_nil)) pa_nil)))
      (pss_cons (ps_expr (pe_bm PySem.F.plainAttrs_list PySem.F.slot_list_append PySem.F.type_list_append mt_append (pv 4) (pa_cons (pv 7) pa_nil)))
      (pss_one (ps_set (i := 5) nd rfl (Or.inl rfl) (pv 0)))))))))
      (pss_one (ps_ret (pe_callTy (k_tupOf (K := K)) (by rfl) T.tuple (by decide +kernel) (pa_cons (pv 4) pa_nil))))))))), ?_⟩
    refine ⟨_, rfl, pw, _, rfl, .inr hw, fun pt npt => ?_⟩
    have s1 : Same H (upd H pt (.lst (ws.map V.int))) := same_new npt
    have ht1 : upd H pt (.lst (ws.map V.int)) pt = some (.lst (ws.map V.int)) := upd_same
    generalize upd H pt (.lst (ws.map V.int)) = H1 at s1 ht1 ⊢
    refine ⟨_, rfl, pw, _, rfl, .inr (sameT s1 hw), _, rfl, RgOk.of_le (by omega) (by rw [List.length_map]; omega) (by omega) (by omega), fun pl npl => ?_⟩
    rw [List.length_map, rgV_eq]
    have s2 : Same H1 (upd H1 pl (.lst ((rgI ws.length).map V.int))) := same_new npl
    have ht2 := s2 _ _ ht1
    have hl2 : upd H1 pl (.lst ((rgI ws.length).map V.int)) pl = some (.lst ((rgI ws.length).map V.int)) := upd_same
    have s02 := s1.trans s2
    generalize upd H1 pl (.lst ((rgI ws.length).map V.int)) = H2 at s02 ht2 hl2 ⊢
    refine ⟨Nat.zero_le _, fun pj npj => ?_⟩
    have s3 : Same H2 (upd H2 pj (.lst [])) := same_new npj
    have ht3 := s3 _ _ ht2
    have hl3 := s3 _ _ hl2
    have hj3 : upd H2 pj (.lst []) pj = some (.lst []) := upd_same
    have npj0 : H pj = none := s02.free npj
    have tj : pt ≠ pj := ne_of_none ht2 npj
    have s03 := s02.trans s3
    generalize upd H2 pj (.lst []) = H3 at s03 ht3 hl3 hj3 ⊢
    refine ⟨_, rfl, _, rfl, pw, _, rfl, .inr (sameT s03 hw), t, ws.length, by rw [List.length_map]; rfl, ?_⟩
    have lt23 : 2 ≤ t ∧ t ≤ 3 := by omega
    refine ⟨fun k σ HI => ∃ (told left : List Int) (pl : Addr) (size : Int) (js : List V) (nss : List (List Int)) (y6 y7 y8 y9 y10 : Option V), σ = [some (.int t), some (.ref pw), some (.ref pt), some (.ref pl), some (.ref pj), some (.int size), y6, y7, y8, y9, y10] ∧ k = left.length ∧ Same H HI ∧
      HI pt = some (.lst (told.map V.int)) ∧ HI pl = some (.lst (left.map V.int)) ∧ HI pj = some (.lst js) ∧ pt ≠ pl ∧ pj ≠ pl ∧ JnAt K HI js nss ∧ Lft told left ∧ OkN t size left.length ∧ preD t (firstI t ws.length) ws (rgI ws.length) nss size told left ∧
      told.length = ws.length + nss.length ∧ left.length + nss.length ≤ ws.length ∧ ∀ ns ∈ nss, ns.length ≤ 3 ∧ ∀ k ∈ ns, 0 ≤ k ∧ k < 2 * ws.length, ⟨_, ws, rgI ws.length, pl, _, [], [], none, none, none, none, none, rfl, rfl, s03, ht3, hl3, hj3, ne_of_none ht1 npl, (ne_of_none hl2 npj).symm, .nil, lft_start ws, by rw [rg_len]; exact .start ht23 l1, fun r => rfl, rfl, by rw [rg_len]; exact Nat.le_refl _, fun _ h => (nomatch h)⟩, ?_⟩
    rintro k σ HI ⟨told, left, pl, size, js, nss, y6, y7, y8, y9, y10, rfl, rfl, sI, hT, hL, hJ, tp, jp, jn, lf, okn, pre, tl, ln, ea⟩
    refine ⟨_, rfl, pl, _, rfl, .inl (SqL.of hL), _, _, rfl, rfl, _, rfl, ite2 (fun h1 => ?_) (fun h1 => ?_)⟩
    · have h1 : 1 < left.length := by
        have := of_decide_eq_true h1
        rw [List.length_map] at this
        omega
      obtain ⟨fit, sz2, sz3⟩ := okn.fits h1
      obtain ⟨sn, rfl⟩ : ∃ sn : Nat, size = (sn : Int) := ⟨size.toNat, by omega⟩
      refine ⟨fun σ' H' => ∃ (told left2 : List Int) (pl : Addr) (size : Int) (js : List V) (nss : List (List Int)) (y6 y7 y8 y9 y10 : Option V), σ' = [some (.int t), some (.ref pw), some (.ref pt), some (.ref pl), some (.ref pj), some (.int size), y6, y7, y8, y9, y10] ∧ left2.length < left.length ∧ Same H H' ∧
        H' pt = some (.lst (told.map V.int)) ∧ H' pl = some (.lst (left2.map V.int)) ∧ H' pj = some (.lst js) ∧ pt ≠ pl ∧ pj ≠ pl ∧ JnAt K H' js nss ∧ Lft told left2 ∧ OkN t size left2.length ∧ preD t (firstI t ws.length) ws (rgI ws.length) nss size told left2 ∧
        told.length = ws.length + nss.length ∧ left2.length + nss.length ≤ ws.length ∧ ∀ ns ∈ nss, ns.length ≤ 3 ∧ ∀ k ∈ ns, 0 ≤ k ∧ k < 2 * ws.length, ?_, ?_⟩
      · rintro σ' H' ⟨told', left', pl', size', js', nss', z6, z7, z8, z9, z10, rfl, lt, r⟩
        exact ⟨left'.length, lt, told', left', pl', size', js', nss', z6, z7, z8, z9, z10, rfl, rfl, r⟩
      · refine ⟨_, rfl, pl, rfl, ⟨_, SqL.of hL⟩, fun D1 nD1 => ?_⟩
        refine lc_weigh (walk_list (K := K) (a := pl)) (by omega) nD1 (prI told) (fun H9 s9 => s9.seq (SqL.of hL)) (fun k H4 hk s4 R hR => ?_) (fun ys H4 s4 hD4 pr => ?_)
        · obtain ⟨k0, k1⟩ := lf.lo k hk
          exact ⟨_, rfl, _, rfl, pt, _, k.toNat, _, rfl, by rw [← int_nat k0], SqL.of (s4 _ _ hT), atI_nat (wt_at k0 k1), _, rfl, by show 2 ≤ sizeLine; decide, hR⟩
        · refine ⟨D1, ys, kH H4, rfl, SqL.of hD4, pr.mem, fun zs p2 hsr hst np2 => ?_⟩
          have zp := hst.perm
          have zk : PrT H4 zs (zs.map (kH H4)) := .of_keys fun y hy => pr.mem y (zp.mem_iff.mp hy)
          have hpq : (zs.map (kH H4)).Perm (left.map (prI told)) := by
            have z := zp.map (kH H4)
            rw [pr.keys] at z
            exact z
          have hsort : (zs.map (kH H4)).Pairwise fun x y => x.1 ≤ y.1 := by
            refine List.pairwise_map.mpr (hsr.imp fun {x y} h => ?_)
            have h : SrtO.lexB (kH H4 y) (kH H4 x) = false := h
            by_cases hlt : (kH H4 x).1 ≤ (kH H4 y).1
            · exact hlt
            · have : SrtO.lexB (kH H4 y) (kH H4 x) = true := SrtO.lexB_iff.mpr (.inl (by omega))
              rw [this] at h
              cases h
          generalize hqs : zs.map (kH H4) = qs at zk hpq hsort
          have s5 : Same H4 (upd H4 p2 (.lst zs)) := same_new np2
          refine ⟨_, rfl, (sn : Int), rfl, p2, zs, rfl, SqL.of upd_same, fun p3 np3 => ?_⟩
          rw [cut_take]
          have s6 := s5.trans (same_new (o := .lst (zs.take sn)) np3)
          have h36 : upd (upd H4 p2 (.lst zs)) p3 (.lst (zs.take sn)) p3 = some (.lst (zs.take sn)) := upd_same
          generalize upd (upd H4 p2 (.lst zs)) p3 (.lst (zs.take sn)) = H6 at s6 h36 ⊢
          have pr6 : PrT H6 (zs.take sn) (qs.take sn) := (zk.take sn).keep (.of s6)
          have lq : qs.length = left.length := by rw [hpq.length_eq, List.length_map]
          have lz : zs.length = left.length := by rw [zk.len, lq]
          have lch : (qs.take sn).length = sn := by rw [List.length_take]; omega
          have lzt : (zs.take sn).length ≤ 1000 := by rw [List.length_take]; omega
          refine ⟨_, rfl, p3, rfl, ⟨_, SqL.of h36⟩, fun D2 nD2 => ?_⟩
          refine lc_part (b := p3) (SqL.of h36) pr6 lzt nD2 (·.2) (fun q2 H7 R hR => ⟨_, rfl, hR⟩) (fun H7 s7 hD7 => ?_)
          refine ⟨D2, _, rfl, SqL.of hD7, fun ns p4 hnp hns np4 => ?_⟩
          refine ⟨p4, _, rfl, .inl ⟨SqL.of upd_same, fun p5 np5 => ?_⟩⟩
          have s8 := (s6.trans s7).trans ((same_new (o := .lst (ns.map V.int)) np4).trans (same_new (o := .tup (ns.map V.int)) np5))
          have h58 : SqT K (upd (upd H7 p4 (.lst (ns.map V.int))) p5 (.tup (ns.map V.int))) p5 (ns.map V.int) := .inl (.inl upd_same)
          have h38 : upd (upd H7 p4 (.lst (ns.map V.int))) p5 (.tup (ns.map V.int)) p3 = some (.lst (zs.take sn)) := (s7.trans ((same_new np4).trans (same_new np5))) _ _ h36
          have pr8 : PrT (upd (upd H7 p4 (.lst (ns.map V.int))) p5 (.tup (ns.map V.int))) (zs.take sn) (qs.take sn) := pr6.keep (.of (s7.trans ((same_new np4).trans (same_new np5))))
          generalize upd (upd H7 p4 (.lst (ns.map V.int))) p5 (.tup (ns.map V.int)) = H8 at s8 h58 h38 pr8 ⊢
          have sI8 : Same HI H8 := s4.trans s8
          have hT8 := sI8 _ _ hT
          have hL8 := sI8 _ _ hL
          have hJ8 := sI8 _ _ hJ
          have hcr : ∀ c ∈ qs.take sn, ∀ r ∈ qs.drop sn, c.1 ≤ r.1 := by
            have hs2 : (qs.take sn ++ qs.drop sn).Pairwise fun x y => x.1 ≤ y.1 := by rw [List.take_append_drop]; exact hsort
            exact (List.pairwise_append.mp hs2).2.2
          obtain ⟨pk1, pk2, pk3, pk4⟩ := pick_ok (told := told) (left := left) (ns := ns) (ch := qs.take sn) (rest := qs.drop sn) (by rw [List.take_append_drop]; exact hpq) (fun c hc r hr => hcr c hc r hr) lf.nd hnp hns
          · rw [lch] at pk1
            have subn : ∀ k ∈ ns, k ∈ left := by
              intro k hk
              unfold canI at pk2
              rw [Bool.and_eq_true, List.all_eq_true] at pk2
              exact of_decide_eq_true (pk2.1 k hk)
            refine ⟨_, rfl, pl, rfl, ⟨_, SqL.of hL8⟩, fun D3 nD3 => ?_⟩
            refine lc_pass (walk_list (K := K) (a := pl)) (by omega) (by rw [List.length_set, List.length_set]; show 8 < 11; decide) nD3 (fun k => !decide (k ∈ ns)) (fun H9 s9 => s9.seq (SqL.of hL8)) (fun k H9 hk s9 R hR => ?_) (fun H9 s9 hD9 => ?_)
            · exact ⟨_, rfl, _, rfl, p5, _, rfl, .inr (sameT s9 h58), rfl, flat_ints _, by rw [inV_int]; exact ⟨_, rfl, hR _ (Same.refl _)⟩⟩
            · have hT9 := s9 _ _ hT8
              refine ⟨_, rfl, pt, _, rfl, .inl (SqL.of hT9), by show 1 ≤ sizeLine; decide, fun r nr => ?_⟩
              have s10 : Same H9 (upd H9 r (.lst [.int ((told.map V.int).length : Nat)])) := same_new nr
              refine ⟨D3, r, _, _, rfl, rfl, s10 _ _ hD9, upd_same, ?_, fun pl2 npl2 => ?_⟩
              · have := List.length_filter_le (fun k => !decide (k ∈ ns)) left
                rw [List.length_map, List.length_singleton]
                exact Nat.le_of_lt (small1000 (by omega))
              · have eL : (left.filter fun k => !decide (k ∈ ns)).map V.int ++ [V.int ((told.map V.int).length : Nat)] = (leftI told left ns).map V.int := by
                  unfold leftI
                  rw [List.map_append, List.length_map]
                  rfl
                rw [eL]
                have s11 := s10.trans (same_new (o := .lst ((leftI told left ns).map V.int)) npl2)
                have s811 := s9.trans s11
                have hL11 : upd (upd H9 r (.lst [.int ((told.map V.int).length : Nat)])) pl2 (.lst ((leftI told left ns).map V.int)) pl2 = some (.lst ((leftI told left ns).map V.int)) := upd_same
                have tp2 : pt ≠ pl2 := ne_of_none (s10 _ _ hT9) npl2
                have jp2 : pj ≠ pl2 := ne_of_none (s10 _ _ (s9 _ _ hJ8)) npl2
                generalize upd (upd H9 r (.lst [.int ((told.map V.int).length : Nat)])) pl2 (.lst ((leftI told left ns).map V.int)) = H11 at s811 hL11 ⊢
                have hT11 := s811 _ _ hT8
                have hJ11 := s811 _ _ hJ8
                have h511 := sameT s811 h58
                have h311 := s811 _ _ h38
                refine ⟨_, rfl, .inl ⟨rfl, _, SqL.of hT11⟩, ?_⟩
                refine ⟨_, rfl, p3, rfl, ⟨_, SqL.of h311⟩, fun D4 nD4 => ?_⟩
                refine lc_part (b := p3) (SqL.of h311) (pr8.keep (.of s811)) lzt nD4 (·.1) (fun q2 H12 R hR => ⟨_, rfl, hR⟩) (fun H12 s12 hD12 => ?_)
                have hT12 := s12 _ _ hT11
                refine ⟨D4, _, rfl, SqL.of hD12, pt, _, _, rfl, rfl, hT12, ?_, ?_⟩
                · rw [List.length_map]
                  exact small1000 (by omega)
                · rw [pk4]
                  have eT : told.map V.int ++ [V.int (sumW told ns)] = (told ++ [sumW told ns]).map V.int := by
                    rw [List.map_append]
                    rfl
                  rw [eT]
                  have hJ13 : upd H12 pt (.lst ((told ++ [sumW told ns]).map V.int)) pj = some (.lst js) := by rw [upd_ne (Ne.symm tj)]; exact s12 _ _ hJ11
                  refine ⟨_, rfl, .inl ⟨rfl, _, SqL.of hJ13⟩, _, rfl, pj, js, _, rfl, rfl, hJ13, ?_, ?_⟩
                  · rw [jn.len]
                    exact small1000 (by omega)
                  · have sH12 : Same H H12 := ((sI.trans sI8).trans s811).trans s12
                    have sF : Same H (upd (upd H12 pt (.lst ((told ++ [sumW told ns]).map V.int))) pj (.lst (js ++ [.ref p5]))) := same_upd_of (same_upd_of sH12 npt) npj0
                    have lfn := len_left (told := told) lf.nd (asc_nodup pk3 |>.imp fun h => by omega) subn
                    have tk : ∀ a zs2, SqT K H12 a zs2 → SqT K (upd (upd H12 pt (.lst ((told ++ [sumW told ns]).map V.int))) pj (.lst (js ++ [.ref p5]))) a zs2 := by
                      intro a zs2 h
                      exact sqT_two (s12 _ _ hT11) (s12 _ _ hJ11) h
                    refine ⟨_, rfl, told ++ [sumW told ns], leftI told left ns, pl2, t, js ++ [.ref p5], nss ++ [ns], _, _, _, _, _, rfl, by omega, sF, ?_, ?_, upd_same, tp2, jp2, ?_, lf.next, okn.next h1 (by omega), pre.next (by omega) lf pk2 pk3, ?_, ?_, ?_⟩
                    · rw [upd_ne tj, upd_same]
                    · rw [upd_ne (Ne.symm jp2), upd_ne (Ne.symm tp2)]
                      exact s12 _ _ hL11
                    · refine JnAt.snoc (JnAt.keep (fun a zs2 h => tk a zs2 (sameT ((sI8.trans s811).trans s12) h)) jn) ⟨p5, rfl, tk _ _ (sameT s12 h511)⟩
                    · rw [List.length_append, List.length_append, List.length_singleton, List.length_singleton]
                      omega
                    · rw [List.length_append, List.length_singleton]
                      omega
                    · intro ns2 h2
                      rcases List.mem_append.mp h2 with h2 | h2
                      · exact ea ns2 h2
                      · rw [List.mem_singleton.mp h2]
                        refine ⟨by omega, fun k hk => ?_⟩
                        have := lf.lo k (subn k hk)
                        omega
    · have h1 : ¬ 1 < left.length := by
        intro z
        refine h1 (decide_eq_true ?_)
        rw [List.length_map]
        omega
      have o1 := okn.1
      refine ⟨_, rfl, pj, _, rfl, .inl ⟨SqL.of hJ, fun p np => ?_⟩⟩
      refine q p js nss _ (sI.trans (same_new np)) (.inl (.inl upd_same)) (jn.keep fun a zs2 h => sameT (same_new np) h) ⟨?_, by omega, ea⟩
      have z := pre []
      rw [List.append_nil] at z
      show runD t (firstI t ws.length) ws (rgI ws.length) (nss.map tupD) = true
      rw [z]
      show decide (left.length = 1) = true
      exact decide_eq_true (by omega)
end
end SG

namespace SG
open PySem PySem.Spec PyProof.Rows L2
theorem all_perm {α : Type} {a b : List α} (p : a.Perm b) (f : α → Bool) : a.all f = b.all f := by
  rw [Bool.eq_iff_iff, List.all_eq_true, List.all_eq_true]
  exact ⟨fun h x hx => h x (p.mem_iff.mpr hx), fun h x hx => h x (p.mem_iff.mp hx)⟩
theorem can_perm {told left left2 ns : List Int} (p : left.Perm left2) : canI told left ns = canI told left2 ns := by
  unfold canI okTop
  rw [all_perm p]
  congr 1
  congr 1
  funext k
  rw [Bool.eq_iff_iff, decide_eq_true_eq, decide_eq_true_eq]
  exact p.mem_iff
theorem leftI_perm {told left left2 ns : List Int} (p : left.Perm left2) : (leftI told left ns).Perm (leftI told left2 ns) := (p.filter _).append_right _
theorem runD_perm {t : Int} : ∀ (js : List PyData) {size : Int} {told left left2 : List Int}, left.Perm left2 → runD t size told left js = runD t size told left2 js
  | [], _, _, _, _, p => by
    show decide _ = decide _
    rw [p.length_eq]
  | D :: r, size, told, left, left2, p => by
    show (if _ then _ else _) = (if _ then _ else _)
    rw [can_perm p, runD_perm r (leftI_perm p)]
/-- one is taken out -/
theorem perm_out {α : Type} {l : List α} {j : Nat} {x : α} (h : l[j]? = some x) : (x :: l.eraseIdx j).Perm l := by
  have hj := (List.getElem?_eq_some_iff.mp h)
  obtain ⟨h1, h2⟩ := hj
  have e : l = l.take j ++ x :: l.drop (j + 1) := by
    have : l.drop j = x :: l.drop (j + 1) := by rw [List.drop_eq_getElem_cons h1, h2]
    rw [← this, List.take_append_drop]
  have e2 : l.eraseIdx j = l.take j ++ l.drop (j + 1) := List.eraseIdx_eq_take_drop_succ l j
  rw [e2]
  conv => rhs; rw [e]
  exact List.perm_middle.symm
/-- what is left behind, in whatever order -/
theorem left_perm {told left ns : List Int} {ch rest : List (Int × Int)} (lf : Lft told left) (hp : (ch ++ rest).Perm (left.map (prI told))) (hn : ns.Perm (ch.map (·.2))) :
    (rest ++ [(sumW told ns, (told.length : Int))]).Perm ((leftI told left ns).map (prI (told ++ [sumW told ns]))) := by
  have e1 : (leftI told left ns).map (prI (told ++ [sumW told ns])) = (left.filter fun k => !decide (k ∈ ns)).map (prI told) ++ [(sumW told ns, (told.length : Int))] := by
    unfold leftI
    rw [List.map_append]
    congr 1
    · apply List.map_congr_left
      intro k hk
      obtain ⟨k0, k1⟩ := lf.lo k (List.mem_filter.mp hk).1
      unfold prI
      rw [wt_app k0 k1]
    · show [prI (told ++ [sumW told ns]) (told.length : Int)] = _
      unfold prI
      rw [wt_new]
  rw [e1]
  refine List.Perm.append_right _ ?_
  have hf := hp.filter fun q => !decide (q.2 ∈ ns)
  have nd : ((ch ++ rest).map (·.2)).Nodup := by
    have z := hp.map (·.2)
    rw [pr_snd] at z
    exact z.nodup_iff.mpr lf.nd
  rw [List.map_append] at nd
  have e2 : (ch.filter fun q => !decide (q.2 ∈ ns)) = [] := by
    rw [List.filter_eq_nil_iff]
    intro q hq
    have : q.2 ∈ ns := hn.mem_iff.mpr (List.mem_map.mpr ⟨q, hq, rfl⟩)
    simp [this]
  have e3 : (rest.filter fun q => !decide (q.2 ∈ ns)) = rest := by
    rw [List.filter_eq_self]
    intro q hq
    have : q.2 ∉ ns := fun z => (List.nodup_append.mp nd).2.2 _ (hn.mem_iff.mp z) _ (List.mem_map.mpr ⟨q, hq, rfl⟩) rfl
    simp [this]
  have e4 : ((left.map (prI told)).filter fun q => !decide (q.2 ∈ ns)) = (left.filter fun k => !decide (k ∈ ns)).map (prI told) := by
    rw [List.filter_map]
    rfl
  rw [List.filter_append, e2, e3, List.nil_append, e4] at hf
  exact hf
end SG

namespace SG
open PySem PySem.Spec PyProof.Rows L2
section
variable {P : Program} {w : World} {K : PySem.W.Frag} {mg : Str → Option Value} {base : Heap}
theorem atI_last {xs : List V} {x : V} : atI (xs ++ [x]) (-1) = some x := by
  unfold atI ixN
  rw [if_neg (by decide), List.length_append, List.length_singleton, if_pos (by omega)]
  have e : ((-1 : Int) + ((xs.length + 1 : Nat) : Int)).toNat = xs.length := by omega
  rw [e]
  show (xs ++ [x])[xs.length]? = some x
  rw [List.getElem?_append_right (Nat.le_refl _)]
  simp
theorem ints_of {xs : List V} {p : Int → Prop} (h : ∀ x ∈ xs, ∃ k, x = V.int k ∧ p k) : ∃ ns : List Int, xs = ns.map V.int ∧ ∀ k ∈ ns, p k := by
  induction xs with
  | nil => exact ⟨[], rfl, fun _ h => (nomatch h)⟩
  | cons x xs ih =>
    obtain ⟨k, rfl, hk⟩ := h x List.mem_cons_self
    obtain ⟨ns, rfl, hn⟩ := ih fun y hy => h y (List.mem_cons_of_mem _ hy)
    refine ⟨k :: ns, rfl, fun y hy => ?_⟩
    rcases List.mem_cons.mp hy with rfl | hy
    · exact hk
    · exact hn y hy
def spWeights (K : PySem.W.Frag) : Sp := fun vs H Q _ => ∃ (d l : Addr) (c : Nat), vs = [.ref d] ∧ Dek H d l c ∧ c < 900000 ∧
  ∀ (p : Addr) (ws : List Int) (H2 : Hp), SqT K H2 p (ws.map V.int) → 1 ≤ ws.length → ws.length ≤ 7 → (∀ k ∈ ws, 0 ≤ k ∧ k < 30) → Dek H2 d l (c + 10) → Kept d l H H2 → Q (.ref p) H2
theorem ok_weights {f f1 f2 : Addr} {fd fd1 fd2 : FuncData} (F : Fun K "_law_weights" "_law_weights" s__law_weights f fd) (F__law_draw : Fun K "_law_draw" "_law_draw" s__law_draw f1 fd1) (m__law_draw : mg "_law_draw" = some (.ref f1)) (b__law_draw : Binds K fd1 ["_law_deck_here", "_law_many"] [])
    (F__law_pick : Fun K "_law_pick" "_law_pick" s__law_pick f2 fd2) (m__law_pick : mg "_law_pick" = some (.ref f2)) (b__law_pick : Binds K fd2 ["_law_deck_here", "_law_some"] []) (T : Txt mg) : GFn P w K mg base CX0 3 f fd ["_law_deck_here"] (spWeights K) := by
  have G__law_draw : GFn P w K mg base CX0 1 f1 fd1 ["_law_deck_here", "_law_many"] spDraw := ok_draw F__law_draw T
  have G__law_pick : GFn P w K mg base CX0 2 f2 fd2 ["_law_deck_here", "_law_some"] (spPick K) := ok_pick F__law_pick F__law_draw m__law_draw b__law_draw T
  refine gfun_ok F sc__law_weights (fun vs H Q E h => ?_) (fun cdv A outer s H vs Q E hgu hr h => ?_)
  · obtain ⟨d, l, c, rfl, _⟩ := h
    rfl
  · obtain ⟨d, l, c, rfl, Dk, hc, q⟩ := h
    have nd := sc__law_weights.nd
    refine ⟨_, (pss_cons (ps_set (i := 1) nd rfl (Or.inr rfl) (pe_g G__law_pick hgu (hr.mono (by decide)) (by rfl) m__law_pick F__law_pick.kp b__law_pick .nil pass0 (pa_cons (pv 0) (pa_cons (pe_lst (pa_cons pe_int (pa_cons pe_int (pa_cons pe_int (pa_cons pe_int pa_nil))))) pa_nil))))
      (pss_one (ps_ret (pe_callTy (k_tupOf (K := K)) (by rfl) T.tuple (by decide +kernel) (pa_cons (pe_lc (own := [("_law_go", 2)]) rfl nd (pi_range1 rfl T.range (pa_cons (pe_op op_add pe_int (pe_g G__law_draw hgu (hr.mono (by decide)) (by rfl) m__law_draw F__law_draw.kp b__law_draw .nil pass0 (pa_cons (pv 0) (pa_cons pe_int pa_nil)))) pa_nil)) (blkOk_by (N := N__law_weights) (sc := defScope s__law_weights) (by decide +kernel)) (fun _ _ _ _ _ => (pg_name (i := 2) nd rfl (Or.inl rfl))) (fun _ _ _ _ _ => pts_nil) (fun _ _ _ _ _ => (pe_g G__law_draw hgu (hr.mono (by decide)) (by rfl) m__law_draw F__law_draw.kp b__law_draw .nil pass0 (pa_cons (pv 0) (pa_cons (pv 1) pa_nil))))) pa_nil))))), ?_⟩
    refine ⟨_, rfl, by show 4 ≤ sizeLine; decide, fun p np => ?_⟩
    refine ⟨d, l, c, p, _, rfl, Dk.upd np, by omega, SqL.of upd_same, (Dk.ne np).2, nofun, by decide, fun x H2 hx D2 k2 => ?_⟩
    have k2 : Kept d l H H2 := (Kept.of (same_new np)).trans k2
    obtain ⟨top, rfl, t0, t1⟩ : ∃ top : Int, x = .int top ∧ 1 ≤ top ∧ top ≤ 30 := by
      simp only [List.mem_cons, List.not_mem_nil, or_false] at hx
      rcases hx with rfl | rfl | rfl | rfl
      · exact ⟨1, rfl, by decide, by decide⟩
      · exact ⟨2, rfl, by decide, by decide⟩
      · exact ⟨4, rfl, by decide, by decide⟩
      · exact ⟨30, rfl, by decide, by decide⟩
    refine ⟨_, rfl, d, l, c + 1, 7, rfl, D2, by omega, by decide, by decide, fun r H3 r0 r1 D3 k3 => ?_⟩
    obtain ⟨rn, rfl⟩ : ∃ rn : Nat, r = (rn : Int) := ⟨r.toNat, by omega⟩
    refine ⟨_, _, rfl, rfl, 1 + (rn : Int), rfl, by omega, by omega, fun D nD => ?_⟩
    have e1 : ((1 : Int) + (rn : Int)).toNat = rn + 1 := by omega
    rw [e1]
    refine lc_drawsG (B := fun v => ∃ k, v = V.int k ∧ 0 ≤ k ∧ k < 30) D3 nD (by omega) (fun i H4 hi D4 k4 R hR => ?_) (fun xs H4 hl hB hD D4 k4 => ?_)
    · exact ⟨_, rfl, _, rfl, d, l, _, top, rfl, D4, by omega, by omega, by omega, fun r H5 r0 r1 D5 k5 => hR _ _ ⟨r, rfl, r0, by omega⟩ D5 k5⟩
    · obtain ⟨ws, rfl, hw⟩ := ints_of hB
      rw [List.length_map] at hl
      refine ⟨D, _, rfl, .inl ⟨SqL.of hD, fun p2 np2 => ?_⟩⟩
      exact q p2 ws _ (.inl (.inl upd_same)) (by omega) (by omega) hw ((D4.upd np2).mono (by omega)) ((k2.trans k3).trans (k4.trans (.of (same_new np2))))
/-- one row of pairs, and what stands at them -/
theorem PrT.ref {H : Hp} {ys : List V} {qs : List (Int × Int)} (h : PrT H ys qs) {i : Nat} {y : V} (e : ys[i]? = some y) : ∃ q t, qs[i]? = some q ∧ y = .ref t ∧ H t = some (.tup [.int q.1, .int q.2]) := h.get e
theorem PrT.prs {H : Hp} : ∀ {ys : List V} {qs : List (Int × Int)}, PrT H ys qs → Prs K H ys qs
  | _, _, .nil => .nil
  | _, _, .cons ⟨t, e, h⟩ r => .cons ⟨t, e, .inl (.inl h)⟩ (PrT.prs r)
theorem PrT.erase {H : Hp} : ∀ {ys : List V} {qs : List (Int × Int)} (j : Nat), PrT H ys qs → PrT H (ys.eraseIdx j) (qs.eraseIdx j)
  | _, _, _, .nil => .nil
  | _, _, 0, .cons _ r => r
  | _, _, j + 1, .cons a r => .cons a (PrT.erase j r)
theorem PrT.keepD {d l : Addr} {c : Nat} {H H2 : Hp} (Dk : Dek H d l c) (k : Kept d l H H2) : ∀ {ys : List V} {qs : List (Int × Int)}, PrT H ys qs → PrT H2 ys qs
  | _, _, .nil => .nil
  | _, _, .cons ⟨t, e, h⟩ r => by
    obtain ⟨cs, m, n, h1, h2, _⟩ := Dk
    exact .cons ⟨t, e, k _ _ h (ne_of h h1 nofun) (ne_of h h2 nofun)⟩ (PrT.keepD ⟨cs, m, n, h1, h2, by assumption⟩ k r)
theorem Dek.updN {d l p : Addr} {c : Nat} {H : Hp} {o : HO} (D : Dek H d l c) (h1 : p ≠ d) (h2 : p ≠ l) : Dek (L2.upd H p o) d l c := by
  obtain ⟨cs, m, n, e1, e2, e3⟩ := D
  exact ⟨cs, m, n, by rw [upd_ne (Ne.symm h1)]; exact e1, by rw [upd_ne (Ne.symm h2)]; exact e2, e3⟩
theorem kept_upd {d l p : Addr} {H H2 : Hp} {o : HO} (k : Kept d l H H2) (n : H p = none) : Kept d l H (upd H2 p o) := fun b u e h1 h2 => by
  rw [upd_ne (ne_of_none e n)]
  exact k b u e h1 h2
theorem tups_upd {p : Addr} {H : Hp} {xs : List V} {o : HO} (h : H p = some (.lst xs)) : Tups H (upd H p o) := fun b u e nl => by
  have hb : b ≠ p := fun z => nl xs (Option.some.inj (e.symm.trans (by rw [z]; exact h)))
  rw [upd_ne hb]
  exact e
theorem sqT_tups {H H2 : Hp} (k : Tups H H2) {a : Addr} {zs : List V} (h : SqT K H a zs) : SqT K H2 a zs := by
  rcases h with (h | ⟨o, h⟩) | h
  · exact .inl (.inl (k _ _ h nofun))
  · exact .inl (.inr ⟨o, k _ _ h nofun⟩)
  · exact .inr h
theorem find_at : ∀ {rest : List (Int × Int)} {q : Int × Int}, q ∈ rest → ∃ j, rest.findIdx? (· == q) = some j ∧ rest[j]? = some q
  | a :: r, q, h => by
    by_cases e : (a == q) = true
    · exact ⟨0, by rw [List.findIdx?_cons, if_pos e], by rw [eq_of_beq e]; rfl⟩
    · rcases List.mem_cons.mp h with rfl | h
      · exact absurd (beq_self_eq_true q) e
      · obtain ⟨j, h1, h2⟩ := find_at h
        exact ⟨j + 1, by rw [List.findIdx?_cons, if_neg e, h1]; rfl, by simpa using h2⟩
/-- what each weighs, of pairs in a list -/
theorem lc_fst {b D : Addr} {ys : List V} {qs : List (Int × Int)} {s : Nat} {σ : L2.St} {H1 : Hp} {Qd : Hp → Prop} (hS : SqL K H1 b ys) (hq : PrT H1 ys qs) (hn : ys.length ≤ 1000) (hs : s < σ.length) (hD : H1 D = none)
    (done : ∀ H2, Same H1 H2 → H2 D = some (.lst ((qs.map (·.1)).map V.int)) → Qd H2) :
    ∃ W : Nat → Nat → Hp → Prop, (∃ m, W 0 m (upd H1 D (.lst []))) ∧ ∀ i m H, W i m H →
      ((Itl K b).stop i H ∧ Qd H) ∨ ((Itl K b).go i H ∧ ∃ Nx : Hp → Prop, (∀ H', Nx H' → ∃ m', m' < m ∧ W (i + 1) m' H') ∧ ∀ x H', (Itl K b).yld i H x H' → gName s x (wipe σ [s]) H' fun σ2 H2 => wipe σ2 [s] = wipe σ [s] ∧ tYes σ2 H2 fun b H3 =>
        if b = true then tOp (rIxT K) (tVar s) (tC (V.int 0)) σ2 H3 fun y H4 => ∃ acc, H4 D = some (.lst acc) ∧ acc.length < sizeLine ∧ Nx (upd H4 D (.lst (acc ++ [y]))) else Nx H3) := by
  refine lc_same (walk_list (K := K) (a := b) (xs := ys)) hn hD (fun i acc _ => acc = ((qs.map (·.1)).take i).map V.int) rfl (fun _ _ _ _ _ h => h) (fun H5 s5 => s5.seq hS) ?_ ?_
  · rintro i x acc H5 H6 hi s5 rfl ⟨rfl, hx⟩ R N hR hN
    obtain ⟨q, t, h1, rfl, h3⟩ := hq.get hx
    refine ⟨wipe1 _ _ _, ?_⟩
    refine yesI (A := fun H7 => _) ?_
    refine ⟨_, by rw [List.getElem?_set_self (by rw [wipe_length]; exact hs)], t, _, 0, _, rfl, rfl, .inl (.inl (s5 _ _ h3)), atI_nat (j := 0) rfl, hR _ _ (Same.refl _) ?_⟩
    rw [List.take_add_one, List.getElem?_map, h1]
    simp
  · rintro acc H5 s5 hl hD1 rfl
    rw [List.take_of_length_le (by rw [List.length_map, ← hq.len]; exact Nat.le_refl _)] at hD1
    exact done H5 s5 hD1
/-- those that weigh so much -/
theorem lc_cand {b D : Addr} {ys : List V} {qs : List (Int × Int)} {s v : Nat} {low : Int} {σ : L2.St} {H1 : Hp} {Qd : Hp → Prop} (hS : SqL K H1 b ys) (hq : PrT H1 ys qs) (hn : ys.length ≤ 1000) (hs : s < σ.length) (sv : s ≠ v) (hv : σ[v]? = some (some (.int low))) (hD : H1 D = none)
    (done : ∀ H2, Same H1 H2 → H2 D = some (.lst (ys.filter fun y => decide ((kH H1 y).1 = low))) → Qd H2) :
    ∃ W : Nat → Nat → Hp → Prop, (∃ m, W 0 m (upd H1 D (.lst []))) ∧ ∀ i m H, W i m H →
      ((Itl K b).stop i H ∧ Qd H) ∨ ((Itl K b).go i H ∧ ∃ Nx : Hp → Prop, (∀ H', Nx H' → ∃ m', m' < m ∧ W (i + 1) m' H') ∧ ∀ x H', (Itl K b).yld i H x H' → gName s x (wipe σ [s]) H' fun σ2 H2 => wipe σ2 [s] = wipe σ [s] ∧ tTest (tOp rEq (tOp (rIxT K) (tVar s) (tC (V.int 0))) (tVar v)) σ2 H2 fun b H3 =>
        if b = true then tVar s σ2 H3 fun y H4 => ∃ acc, H4 D = some (.lst acc) ∧ acc.length < sizeLine ∧ Nx (upd H4 D (.lst (acc ++ [y]))) else Nx H3) := by
  refine lc_same (walk_list (K := K) (a := b) (xs := ys)) hn hD (fun i acc _ => acc = (ys.take i).filter fun y => decide ((kH H1 y).1 = low)) rfl (fun _ _ _ _ _ h => h) (fun H5 s5 => s5.seq hS) ?_ ?_
  · rintro i x acc H5 H6 hi s5 rfl ⟨rfl, hx⟩ R N hR hN
    obtain ⟨q, t, h1, rfl, h3⟩ := hq.get hx
    have hv2 : ((wipe σ [s]).set s (some (.ref t)))[v]? = some (some (.int low)) := by
      show (List.set (List.set σ s none) s (some (.ref t)))[v]? = _
      rw [List.getElem?_set_ne sv, List.getElem?_set_ne sv]
      exact hv
    have hx2 : ((wipe σ [s]).set s (some (.ref t)))[s]? = some (some (.ref t)) := by rw [List.getElem?_set_self (by rw [wipe_length]; exact hs)]
    refine ⟨wipe1 _ _ _, ?_⟩
    have e : (ys.take (i + 1)).filter (fun y => decide ((kH H1 y).1 = low)) = (ys.take i).filter (fun y => decide ((kH H1 y).1 = low)) ++ (if q.1 = low then [.ref t] else []) := by
      rw [List.take_add_one, hx, List.filter_append]
      congr 1
      show List.filter _ [V.ref t] = _
      have e2 : (kH H1 (.ref t)).1 = q.1 := by rw [kH_of h3]
      by_cases e3 : q.1 = low <;> simp [e2, e3]
    refine ⟨_, hx2, t, _, 0, _, rfl, rfl, .inl (.inl (s5 _ _ h3)), atI_nat (j := 0) rfl, _, hv2, rfl, _, rfl, ite2 (fun h => ?_) (fun h => ?_)⟩
    · rw [dec_int, beq_iff_eq] at h
      exact ⟨.ref t, hx2, hR _ _ (Same.refl _) (by rw [e, if_pos h])⟩
    · rw [dec_int, beq_iff_eq] at h
      exact hN _ (Same.refl _) (by rw [e, if_neg h, List.append_nil])
  · rintro acc H5 s5 hl hD1 rfl
    rw [List.take_of_length_le (Nat.le_refl _)] at hD1
    exact done H5 s5 hD1
/-- the weights beside their places, in new pairs -/
theorem lc_places {a D : Addr} {ws : List Int} {σ : L2.St} {H1 : Hp} {Qd : Hp → Prop} (hS : SqT K H1 a (ws.map V.int)) (hn : ws.length ≤ 1000) (hD : H1 D = none) {s1 s2 : Nat} (h1 : s1 < σ.length) (h2 : s2 < σ.length) (h12 : s1 ≠ s2)
    (done : ∀ (ys : List V) (H2 : Hp), Same H1 H2 → H2 D = some (.lst ys) → PrT H2 ys ((rgI ws.length).map (prI ws)) → Qd H2) :
    ∃ W : Nat → Nat → Hp → Prop, (∃ m, W 0 m (upd H1 D (.lst []))) ∧ ∀ i m H, W i m H →
      ((IteT K a).stop i H ∧ Qd H) ∨ ((IteT K a).go i H ∧ ∃ Nx : Hp → Prop, (∀ H', Nx H' → ∃ m', m' < m ∧ W (i + 1) m' H') ∧ ∀ x H', (IteT K a).yld i H x H' → gTup K 2 (gCons (gName s1) (gCons (gName s2) gNil)) x (wipe σ [s1, s2]) H' fun σ2 H2 => wipe σ2 [s1, s2] = wipe σ [s1, s2] ∧ tYes σ2 H2 fun b H3 =>
        if b = true then tTup (tCons (tVar s2) (tCons (tVar s1) tNil)) σ2 H3 fun y H4 => ∃ acc, H4 D = some (.lst acc) ∧ acc.length < sizeLine ∧ Nx (upd H4 D (.lst (acc ++ [y]))) else Nx H3) := by
  refine lc_enumT (xs := ws.map V.int) (fun i H2 => Same H1 H2 ∧ ∃ acc, H2 D = some (.lst acc) ∧ acc.length ≤ i ∧ PrT H2 acc (((rgI ws.length).map (prI ws)).take i)) ⟨same_new hD, [], upd_same, Nat.le_refl _, .nil⟩ (fun i H2 _ p => sameT p.1 hS) ?_ ?_
  · rintro i x H2 T hx ⟨sm, acc, hA, hl, pr⟩ hT
    obtain ⟨k, rfl, hk⟩ := get_int hx
    have hi : i < ws.length := (List.getElem?_eq_some_iff.mp hk).1
    refine ⟨T, _, rfl, .inl (.inl upd_same), rfl, _, _, rfl, _, _, rfl, rfl, wipe2 _ _ _ _ _, ?_⟩
    refine yesI ?_
    have s1' : Same H1 (upd H2 T (.tup [.int (i : Nat), .int k])) := sm.trans (same_new hT)
    have hA2 : (upd H2 T (.tup [.int (i : Nat), .int k])) D = some (.lst acc) := same_new hT _ _ hA
    refine ⟨.int k, ?_, .int (i : Nat), ?_, by show 2 ≤ sizeLine; decide, fun p np => ⟨acc, same_new np _ _ hA2, small1000 (by omega), same_upd_of (s1'.trans (same_new np)) hD, acc ++ [.ref p], upd_same, by rw [List.length_append]; simpa using hl, ?_⟩⟩
    · rw [List.getElem?_set_self (by rw [List.length_set, wipe_length]; exact h2)]
    · rw [List.getElem?_set_ne (Ne.symm h12), List.getElem?_set_self (by rw [wipe_length]; exact h1)]
    · have e : ((rgI ws.length).map (prI ws)).take (i + 1) = ((rgI ws.length).map (prI ws)).take i ++ [(k, (i : Int))] := by
        have e1 : ((rgI ws.length).map (prI ws))[i]? = some (k, (i : Int)) := by
          unfold rgI
          rw [List.getElem?_map, List.getElem?_map, List.getElem?_range hi]
          show some (prI ws (i : Int)) = _
          unfold prI wt
          rw [List.getD_eq_getElem?_getD, Int.toNat_natCast, hk]
          rfl
        rw [List.take_add_one, e1]
        rfl
      rw [e]
      have hp : (upd (upd (upd H2 T (.tup [.int (i : Nat), .int k])) p (.tup [.int k, .int (i : Nat)])) D (.lst (acc ++ [.ref p]))) p = some (.tup [.int k, .int (i : Nat)]) := by
        have pd : p ≠ D := (ne_of_none hA2 np).symm
        rw [upd_ne pd, upd_same]
      exact (((pr.keep (.of (same_new hT))).keep (.of (same_new np))).keep (tups_upd (same_new np _ _ hA2))).snoc ⟨p, rfl, hp⟩
  · rintro H2 ⟨sm, acc, hA, hl, pr⟩
    rw [List.length_map, List.take_of_length_le (by rw [List.length_map, rg_len]; exact Nat.le_refl _)] at pr
    exact done acc H2 sm hA pr
def spDrawn (K : PySem.W.Frag) : Sp := fun vs H Q _ => ∃ (d l : Addr) (c : Nat) (t : Int) (pw : Addr) (ws : List Int), vs = [.ref d, .int t, .ref pw] ∧ Dek H d l c ∧ c < 900000 ∧ (t = 2 ∨ t = 3) ∧ SqT K H pw (ws.map V.int) ∧ 1 ≤ ws.length ∧ ws.length ≤ 7 ∧
  ∀ (p : Addr) (xs : List V) (nss : List (List Int)) (H2 : Hp), SqT K H2 p xs → JnAt K H2 xs nss → GoodJ t ws nss → Dek H2 d l (c + 30) → Kept d l H H2 → Q (.ref p) H2
/-- between two rounds -/
def DrSt (K : PySem.W.Frag) (d l : Addr) (c : Nat) (t : Int) (pw D1 pf : Addr) (ws : List Int) (H : Hp) (i : Nat) (σ : L2.St) (HI : Hp) : Prop := ∃ (told left : List Int) (ys : List V) (qs : List (Int × Int)) (size : Int) (js : List V) (nss : List (List Int)) (y6 y7 y8 y9 y10 y11 y12 : Option V),
  σ = [some (.ref d), some (.int t), some (.ref pw), some (.ref D1), some (.ref pf), some (.int size), y6, y7, y8, y9, y10, y11, y12] ∧ Dek HI d l (c + 3 * i) ∧ Kept d l H HI ∧ HI D1 = some (.lst ys) ∧ PrT HI ys qs ∧ qs.Perm (left.map (prI told)) ∧ HI pf = some (.lst js) ∧ JnAt K HI js nss ∧ Lft told left ∧ OkN t size left.length ∧
  preD t (firstI t ws.length) ws (rgI ws.length) nss size told left ∧ told.length = ws.length + nss.length ∧ left.length + nss.length ≤ ws.length ∧ (∀ ns ∈ nss, ns.length ≤ 3 ∧ ∀ k ∈ ns, 0 ≤ k ∧ k < 2 * ws.length) ∧ (left.length = 1 ∨ left.length + i ≤ ws.length)
theorem ok_drawn {f f1 f2 : Addr} {fd fd1 fd2 : FuncData} (F : Fun K "_law_drawn_joins" "_law_drawn_joins" s__law_drawn_joins f fd) (F__law_draw : Fun K "_law_draw" "_law_draw" s__law_draw f1 fd1) (m__law_draw : mg "_law_draw" = some (.ref f1)) (b__law_draw : Binds K fd1 ["_law_deck_here", "_law_many"] [])
    (F__law_pick : Fun K "_law_pick" "_law_pick" s__law_pick f2 fd2) (m__law_pick : mg "_law_pick" = some (.ref f2)) (b__law_pick : Binds K fd2 ["_law_deck_here", "_law_some"] []) (T : Txt mg) : GFn P w K mg base CX0 3 f fd ["_law_deck_here", "_law_letters", "_law_weights_here"] (spDrawn K) := by
  have G__law_pick : GFn P w K mg base CX0 2 f2 fd2 ["_law_deck_here", "_law_some"] (spPick K) := ok_pick F__law_pick F__law_draw m__law_draw b__law_draw T
  refine gfun_ok F sc__law_drawn_joins (fun vs H Q E h => ?_) (fun cdv A outer s H vs Q E hgu hr h => ?_)
  · obtain ⟨d, l, c, t, pw, ws, rfl, _⟩ := h
    rfl
  · obtain ⟨d, l, c, t, pw, ws, rfl, Dk, hc, ht23, hw, l1, l7, q⟩ := h
    have nd := sc__law_drawn_joins.nd
    refine ⟨_, (pss_cons (ps_par (i := 3) (j := 4) rfl nd rfl rfl (by decide) rfl rfl (pa_cons (pe_lc (own := [("_law_k", 10), ("_law_weight", 11)]) rfl nd (k_enumT (K := K) (by rfl) T.enumerate (pa_cons (pv 2) pa_nil)) (blkOk_by (N := N__law_drawn_joins) (sc := defScope s__law_drawn_joins) (by decide +kernel)) (fun _ _ _ _ _ => (k_tg (K := K) (n := 2) rfl (pgs_cons (pg_name (i := 10) nd rfl (Or.inl rfl)) (pgs_cons (pg_name (i := 11) nd rfl (Or.inl rfl)) pgs_nil)))) (fun _ _ _ _ _ => pts_nil) (fun _ _ _ _ _ => (pe_tup (pa_cons (pv 11) (pa_cons (pv 10) pa_nil))))) (pa_cons (pe_lst pa_nil) pa_nil)) (by rfl))
      (pss_cons (ps_set (i := 5) nd rfl (Or.inl rfl) (pe_ifExp (PW.pt (pw_or (pt_cmpR op_eq (pv 1) pe_int (nomark _)) (pw_or1 (pt_cmpR op_eq (pe_op op_mod (pe_callB (k_len (K := K)) (by rfl) T.len (by decide +kernel) (pa_cons (pv 3) pa_nil)) pe_int) pe_int (nomark _))))) (pv 1) pe_int))
      (pss_cons (ps_for PassesOwn.never rfl (pi_range1 rfl T.range (pa_cons (pe_callB (k_len (K := K)) (by rfl) T.len (by decide +kernel) (pa_cons (pv 2) pa_nil)) pa_nil)) (pg_name (i := 6) nd rfl (Or.inl rfl))
        (pss_one (ps_if (pt_cmpR op_gt (pe_callB (k_len (K := K)) (by rfl) T.len (by decide +kernel) (pa_cons (pv 3) pa_nil)) pe_int (nomark _)) (pss_cons (ps_set (i := 7) nd rfl (Or.inl rfl) (pe_lst pa_nil))
      (pss_cons (ps_for PassesOwn.never rfl (pi_range1 rfl T.range (pa_cons (pv 5) pa_nil)) (pg_name (i := 8) nd rfl (Or.inl rfl))
        (pss_cons (ps_set (i := 9) nd rfl (Or.inr rfl) (pe_callB (k_min (K := K) rfl) (by rfl) T.min (by decide +kernel) (pa_cons (pe_lc (own := [("_law_pair", 12)]) rfl nd (pi_list (pv 3)) (blkOk_by (N := N__law_drawn_joins) (sc := defScope s__law_drawn_joins) (by decide +kernel)) (fun _ _ _ _ _ => (pg_name (i := 12) nd rfl (Or.inl rfl))) (fun _ _ _ _ _ => pts_nil) (fun _ _ _ _ _ => (pe_ix (k_ixT (K := K)) (pv 12) pe_int (fun _ _ => rfl)))) pa_nil)))
      (pss_cons (ps_expr (pe_bm PySem.F.plainAttrs_list PySem.F.slot_list_append PySem.F.type_list_append mt_append (pv 7) (pa_cons (pe_g G__law_pick hgu (hr.mono (by decide)) (by rfl) m__law_pick F__law_pick.kp b__law_pick .nil pass0 (pa_cons (pv 0) (pa_cons (pe_lc (own := [("_law_pair", 12)]) rfl nd (pi_list (pv 3)) (blkOk_by (N := N__law_drawn_joins) (sc := defScope s__law_drawn_joins) (by decide +kernel)) (fun _ _ _ _ _ => (pg_name (i := 12) nd rfl (Or.inl rfl))) (fun _ _ _ _ _ => (pts_one (pt_cmpR op_eq (pe_ix (k_ixT (K := K)) (pv 12) pe_int (fun _ _ => rfl)) (pv 9) (nomark _)))) (fun _ _ _ _ _ => (pv 12))) pa_nil))) pa_nil)))
      (pss_one (ps_expr (pe_bm PySem.F.plainAttrs_list PySem.F.slot_list_remove PySem.F.type_list_remove (k_removeP (K := K) hr.units) (pv 3) (pa_cons (pe_ix (k_ixL (K := K)) (pv 7) (pe_un un_neg pe_int) (fun _ _ => rfl)) pa_nil)))))))
      (pss_cons (ps_expr (pe_bm PySem.F.plainAttrs_list PySem.F.slot_list_append PySem.F.type_list_append mt_append (pv 4) (pa_cons (pe_callTy (k_tupOf (K := K)) (by rfl) T.tuple (by decide +kernel) (pa_cons (pe_callB (k_sortI (K := K)) (by rfl) T.sorted (by decide +kernel) (pa_cons (pe_lc (own := [("_law_weight", 11), ("_law_k", 10)]) rfl nd (pi_list (pv 7)) (blkOk_by (N := N__law_drawn_joins) (sc := defScope s__law_drawn_joins) (by decide +kernel)) (fun _ _ _ _ _ => (k_tg (K := K) (n := 2) rfl (pgs_cons (pg_name (i := 11) nd rfl (Or.inl rfl)) (pgs_cons (pg_name (i := 10) nd rfl (Or.inl rfl)) pgs_nil)))) (fun _ _ _ _ _ => pts_nil) (fun _ _ _ _ _ => (pv 10))) pa_nil)) pa_nil)) pa_nil)))
      (pss_cons (ps_expr (pe_bm PySem.F.plainAttrs_list PySem.F.slot_list_append PySem.F.type_list_append mt_append (pv 3) (pa_cons (pe_tup (pa_cons (pe_callB (k_sum (K := K) rfl) (by rfl) T.sum (by decide +kernel) (pa_cons (pe_lc (own := [("_law_weight", 11), ("_law_k", 10)]) rfl nd (pi_list (pv 7)) (blkOk_by (N := N__law_drawn_joins) (sc := defScope s__law_drawn_joins) (by decide +kernel)) (fun _ _ _ _ _ => (k_tg (K := K) (n := 2) rfl (pgs_cons (pg_name (i := 11) nd rfl (Or.inl rfl)) (pgs_cons (pg_name (i := 10) nd rfl (Or.inl rfl)) pgs_nil)))) (fun _ _ _ _ _ => pts_nil) (fun _ _ _ _ _ => (pv 11))) pa_nil)) (pa_cons (pe_op op_sub (pe_op op_add (pe_callB (k_len (K := K)) (by rfl) T.len (by decide +kernel) (pa_cons (pv 2) pa_nil)) (pe_callB (k_len (K := K)) (by rfl) T.len (by decide +kernel) (pa_cons (pv 4) pa_nil))) pe_int) pa_nil))) pa_nil)))
      (pss_one (ps_set (i := 5) nd rfl (Or.inl rfl) (pv 1))))))) pss_nil)))
      (pss_one (ps_ret (pe_callTy (k_tupOf (K := K)) (by rfl) T.tuple (by decide +kernel) (pa_cons (pv 4) pa_nil))))))), ?_⟩
    refine ⟨_, rfl, pw, _, rfl, hw, fun D1 nD1 => ?_⟩
    refine lc_places hw (by omega) nD1 (by show 10 < 13; decide) (by show 11 < 13; decide) (by decide) (fun ys H2 s2 hD2 pr2 => ?_)
    have dk2 := Dk.same s2
    have npl : H D1 = none := nD1
    have pl1 : D1 ≠ d ∧ D1 ≠ l := Dk.ne nD1
    refine ⟨Nat.zero_le _, fun pf npf => ⟨_, _, rfl, ?_⟩⟩
    have s3 : Same H2 (upd H2 pf (.lst [])) := same_new npf
    have npf0 : H pf = none := s2.free npf
    have pf1 : pf ≠ d ∧ pf ≠ l := dk2.ne npf
    have lf1 : D1 ≠ pf := ne_of_none hD2 npf
    have dk3 := dk2.upd (o := .lst []) npf
    have hD3 := s3 _ _ hD2
    have hF3 : upd H2 pf (.lst []) pf = some (.lst []) := upd_same
    have pr3 := pr2.keep (.of s3)
    have k3 : Kept d l H (upd H2 pf (.lst [])) := .of (s2.trans s3)
    generalize upd H2 pf (.lst []) = H3 at dk3 hD3 hF3 pr3 k3 ⊢
    have ly : ys.length = ws.length := by rw [pr2.len, List.length_map, rg_len]
    -- how many are joined at first
    have size0 : ∀ De : Ends, De.nx (([some (.ref d), some (.int t), some (.ref pw), some (.ref D1), some (.ref pf), none, none, none, none, none, none, none, none] : L2.St).set 5 (some (.int (firstI t ws.length)))) H3 → tAsg (tIf (tOr (tTest (tOp rEq (tVar 1) (tC (V.int 2)))) (tTest (tOp rEq (tOp (rI (fun x j => 0 < j) fun i j => V.int (i % j)) (tCB (rLenS K) (tCons (tVar 3) tNil)) (tC (V.int 2))) (tC (V.int 1))))) (tVar 1) (tC (V.int 2))) (gName 5) De
        [some (.ref d), some (.int t), some (.ref pw), some (.ref D1), some (.ref pf), none, none, none, none, none, none, none, none] H3 := by
      intro De hq
      refine ⟨_, rfl, rfl, _, rfl, ?_⟩
      by_cases e2 : t = 2
      · refine ifT (by rw [dec_int, e2]; rfl) (ifT rfl ⟨_, rfl, ?_⟩)
        have : firstI t ws.length = t := by unfold firstI; split <;> omega
        rw [this] at hq
        exact hq
      · refine ifF (by rw [dec_int]; simpa using e2) ⟨_, rfl, D1, _, rfl, .inl (SqL.of hD3), _, _, rfl, rfl, (by show (0 : Int) < 2; decide), rfl, _, rfl, ite2 (fun h => ?_) (fun h => ?_)⟩
        · rw [dec_int, beq_iff_eq] at h
          refine ⟨_, rfl, ?_⟩
          have : firstI t ws.length = t := by unfold firstI; rw [if_neg (by omega)]
          rw [this] at hq
          exact hq
        · rw [dec_int, beq_iff_eq] at h
          have : firstI t ws.length = 2 := by unfold firstI; rw [if_pos (by omega)]
          rw [this] at hq
          exact hq
    refine size0 _ ?_
    refine ⟨_, rfl, pw, _, rfl, .inr (k3.tupG Dk hw), _, rfl, by omega, by rw [List.length_map]; omega, ?_⟩
    have en : (((ws.map V.int).length : Nat) : Int).toNat = ws.length := by rw [List.length_map]; omega
    rw [en]
    refine for_it walk_range (fun i σ HI => DrSt K d l c t pw D1 pf ws H i σ HI) ⟨ws, rgI ws.length, ys, _, _, [], [], none, none, none, none, none, none, none, rfl, dk3, k3, hD3, pr3, .refl _, hF3, .nil, lft_start ws, by rw [rg_len]; exact .start ht23 l1, fun r => rfl, rfl, by rw [rg_len]; exact Nat.le_refl _, fun _ h => (nomatch h), .inr (by rw [rg_len]; omega)⟩ (fun _ _ _ _ _ => trivial) ?_ ?_
    · rintro i x σ HI HJ hi ⟨told, left, ys, qs, size, js, nss, y6, y7, y8, y9, y10, y11, y12, rfl, dk, k, hD, pr, pm, hF, jn, lf, okn, pre, tl, ln, ea, due⟩ ⟨rfl, rfl⟩
      have lqs : qs.length = left.length := by rw [pm.length_eq, List.length_map]
      have lys : ys.length = left.length := by rw [pr.len, lqs]
      refine ⟨_, rfl, D1, _, rfl, .inl (SqL.of hD), _, _, rfl, rfl, _, rfl, ite2 (fun h1 => ?_) (fun h1 => ?_)⟩
      · have h1 : 1 < left.length := by
          have := of_decide_eq_true h1
          omega
        obtain ⟨fit, sz2, sz3⟩ := okn.fits h1
        obtain ⟨sn, rfl⟩ : ∃ sn : Nat, size = (sn : Int) := ⟨size.toNat, by omega⟩
        refine ⟨Nat.zero_le _, fun ps nps => ?_⟩
        have nps0 : H ps = none := Option.eq_none_iff_forall_ne_some.mpr fun o ho => by
          by_cases e1 : ps = d
          · exact (dk.ne nps).1 e1
          · by_cases e2 : ps = l
            · exact (dk.ne nps).2 e2
            · have := k _ _ ho e1 e2
              rw [nps] at this
              cases this
        have psD : ps ≠ D1 := (ne_of_none hD nps).symm
        have psF : ps ≠ pf := (ne_of_none hF nps).symm
        have psd := dk.ne nps
        refine ⟨_, rfl, _, rfl, by omega, by omega, ?_⟩
        rw [show ((sn : Int)).toNat = sn from rfl]
        refine for_it walk_range (fun g σ2 HK => ∃ (ys rest' : List V) (rest ch : List (Int × Int)) (z8 z9 z10 z11 z12 : Option V), σ2 = [some (.ref d), some (.int t), some (.ref pw), some (.ref D1), some (.ref pf), some (.int (sn : Int)), some (.int (0 + (i : Int))), some (.ref ps), z8, z9, z10, z11, z12] ∧ Dek HK d l (c + 3 * i + g) ∧ Kept d l H HK ∧
          HK D1 = some (.lst ys) ∧ PrT HK ys rest ∧ HK ps = some (.lst rest') ∧ PrT HK rest' ch ∧ ch.length = g ∧ (ch ++ rest).Perm (left.map (prI told)) ∧ (∀ a ∈ ch, ∀ r ∈ rest, a.1 ≤ r.1) ∧ HK pf = some (.lst js) ∧ JnAt K HK js nss)
          ⟨ys, [], qs, [], _, _, _, _, _, rfl, dk.upd nps, k.trans (.of (same_new nps)), same_new nps _ _ hD, pr.keep (.of (same_new nps)), upd_same, .nil, rfl, pm, fun _ h => (nomatch h), same_new nps _ _ hF, jn.keep fun a zs h => sameT (same_new nps) h⟩ (fun _ _ _ _ _ => trivial) ?_ ?_
        · rintro g x2 σ2 HK HL hg ⟨ys, cs, rest, ch, z8, z9, z10, z11, z12, rfl, dkK, kK, hDK, prK, hpK, pcK, lch, pmK, hle, hFK, jnK⟩ ⟨rfl, rfl⟩
          have lr : rest.length = left.length - g := by
            have := pmK.length_eq
            rw [List.length_append, List.length_map] at this
            omega
          have lry : ys.length = rest.length := prK.len
          have rpos : 0 < rest.length := by omega
          refine ⟨_, rfl, D1, rfl, ⟨_, SqL.of hDK⟩, fun D4 nD4 => ?_⟩
          refine lc_fst (b := D1) (SqL.of hDK) prK (by omega) (by rw [List.length_set]; show 12 < 13; decide) nD4 (fun H5 s5 hD5 => ?_)
          refine ⟨D4, _, rfl, SqL.of hD5, by rw [List.length_map]; exact rpos, fun low hm1 hm2 => ?_⟩
          obtain ⟨q0, hq0, rfl⟩ := List.mem_map.mp hm1
          have hps5 := s5 _ _ hpK
          have hDl5 := s5 _ _ hDK
          have pr5 := prK.keep (.of s5)
          have pc5 := pcK.keep (.of s5)
          have dk5 := dkK.same s5
          have k5 : Kept d l H H5 := kK.trans (.of s5)
          refine ⟨_, rfl, .inl ⟨rfl, _, SqL.of hps5⟩, _, rfl, ?_⟩
          refine ⟨_, rfl, D1, rfl, ⟨_, SqL.of hDl5⟩, fun D6 nD6 => ?_⟩
          refine lc_cand (b := D1) (v := 9) (low := q0.1) (SqL.of hDl5) pr5 (by omega) (by rw [List.length_set, List.length_set]; show 12 < 13; decide) (by decide) rfl nD6 (fun H6 s6 hD6 => ?_)
          have dk6 := dk5.same s6
          have D6l : D6 ≠ l := (dk5.ne nD6).2
          refine ⟨d, l, c + 3 * i + g, D6, _, rfl, dk6, by omega, SqL.of hD6, D6l, ?_, Nat.le_trans (List.length_filter_le _ _) (by omega), fun x H7 hx dk7 k7 => ?_⟩
          · intro z
            obtain ⟨iq, hiq⟩ := List.mem_iff_getElem?.mp hq0
            have hiy : iq < ys.length := by
              have := (List.getElem?_eq_some_iff.mp hiq).1
              omega
            obtain ⟨q1, t1, e1, e2, e3⟩ := pr5.get (List.getElem?_eq_getElem hiy)
            rw [hiq] at e1
            cases e1
            have : ys[iq] ∈ ys.filter fun y => decide ((kH H5 y).1 = q0.1) := List.mem_filter.mpr ⟨List.getElem_mem hiy, by rw [e2, kH_of e3]; exact decide_eq_true rfl⟩
            rw [z] at this
            exact absurd this List.not_mem_nil
          · obtain ⟨hx1, hx2⟩ := List.mem_filter.mp hx
            obtain ⟨jx, hjx⟩ := List.mem_iff_getElem?.mp hx1
            obtain ⟨q1, t1, e1, rfl, e3⟩ := pr5.get hjx
            have low1 : q1.1 = q0.1 := by
              have := of_decide_eq_true hx2
              rw [kH_of e3] at this
              exact this
            have mem1 : q1 ∈ rest := List.mem_of_getElem? e1
            have kk : Kept d l H H7 := (k5.trans (.of s6)).trans k7
            have pr7 := (pr5.keep (.of s6)).keepD dk6 k7
            have pc7 := (pc5.keep (.of s6)).keepD dk6 k7
            have hDl7 : H7 D1 = some (.lst ys) := k7 _ _ (s6 _ _ hDl5) pl1.1 pl1.2
            have hps7 : H7 ps = some (.lst cs) := k7 _ _ (s6 _ _ hps5) psd.1 psd.2
            have hF7 : H7 pf = some (.lst js) := k7 _ _ (s6 _ _ (s5 _ _ hFK)) pf1.1 pf1.2
            have jn7 : JnAt K H7 js nss := jnK.keep fun a zs h => k7.tupG dk6 (sameT s6 (sameT s5 h))
            have e7 : H7 t1 = some (.tup [.int q1.1, .int q1.2]) := by
              obtain ⟨_, _, _, f1, f2, _⟩ := dk6
              exact k7 _ _ (s6 _ _ e3) (ne_of (s6 _ _ e3) f1 nofun) (ne_of (s6 _ _ e3) f2 nofun)
            refine ⟨ps, cs, _, rfl, rfl, hps7, small1000 (by rw [pcK.len]; omega), ?_⟩
            have tu := tups_upd (o := .lst (cs ++ [.ref t1])) hps7
            have hps8 : upd H7 ps (.lst (cs ++ [.ref t1])) ps = some (.lst (cs ++ [.ref t1])) := upd_same
            have hDl8 : upd H7 ps (.lst (cs ++ [.ref t1])) D1 = some (.lst ys) := by rw [upd_ne (Ne.symm psD)]; exact hDl7
            have hF8 : upd H7 ps (.lst (cs ++ [.ref t1])) pf = some (.lst js) := by rw [upd_ne (Ne.symm psF)]; exact hF7
            have dk8 := dk7.updN (o := .lst (cs ++ [.ref t1])) psd.1 psd.2
            have kk8 := kept_upd (o := .lst (cs ++ [.ref t1])) kk nps0
            have e8 := tu _ _ e7 nofun
            have pr8 := pr7.keep tu
            have pc8 := (pc7.keep tu).snoc (q := q1) ⟨t1, rfl, e8⟩
            have jn8 := jn7.keep fun a zs h => sqT_tups tu h
            generalize upd H7 ps (.lst (cs ++ [.ref t1])) = H8 at hps8 hDl8 hF8 dk8 kk8 e8 pr8 pc8 jn8 ⊢
            obtain ⟨j, hj, hjr⟩ := find_at mem1
            refine ⟨_, rfl, .inl ⟨rfl, _, SqL.of hDl8⟩, _, rfl, 1, rfl, ps, _, -1, _, rfl, rfl, SqL.of hps8, atI_last, D1, t1, ys, rest, q1, j, rfl, rfl, hDl8, pr8.prs, .inl (.inl e8), hj, ?_⟩
            have tu9 := tups_upd (o := .lst (ys.eraseIdx j)) hDl8
            have po := perm_out hjr
            refine ⟨ys.eraseIdx j, cs ++ [.ref t1], rest.eraseIdx j, ch ++ [q1], _, _, _, _, _, rfl, by rw [show c + 3 * i + (g + 1) = c + 3 * i + g + 1 by omega]; exact dk8.updN pl1.1 pl1.2, kept_upd kk8 npl, upd_same, (pr8.erase j).keep tu9, by rw [upd_ne psD]; exact hps8, pc8.keep tu9, by rw [List.length_append, lch]; rfl, ?_, ?_, by rw [upd_ne (Ne.symm lf1)]; exact hF8, jn8.keep fun a zs h => sqT_tups tu9 h⟩
            · rw [List.append_assoc]
              exact (List.Perm.append_left ch po).trans pmK
            · intro a ha r hr
              have hr2 : r ∈ rest := po.mem_iff.mp (List.mem_cons_of_mem _ hr)
              rcases List.mem_append.mp ha with ha | ha
              · exact hle a ha r hr2
              · rw [List.mem_singleton.mp ha, low1]
                exact hm2 _ (List.mem_map.mpr ⟨r, hr2, rfl⟩)
        · rintro σ2 HK ⟨ys, cs, rest, ch, z8, z9, z10, z11, z12, rfl, dkK, kK, hDK, prK, hpK, pcK, lch, pmK, hle, hFK, jnK⟩
          have lcs : cs.length = sn := by rw [pcK.len, lch]
          refine ⟨_, rfl, .inl ⟨rfl, _, SqL.of hFK⟩, _, rfl, ps, rfl, ⟨_, SqL.of hpK⟩, fun D5 nD5 => ?_⟩
          refine lc_part (b := ps) (SqL.of hpK) pcK (by omega) nD5 (·.2) (fun q2 H7 R hR => ⟨_, rfl, hR⟩) (fun H5 s5 hD5 => ?_)
          refine ⟨D5, _, rfl, SqL.of hD5, fun ns p4 hnp hns np4 => ⟨p4, _, rfl, .inl ⟨SqL.of upd_same, fun p5 np5 => ?_⟩⟩⟩
          have s6 := s5.trans ((same_new (o := .lst (ns.map V.int)) np4).trans (same_new (o := .tup (ns.map V.int)) np5))
          have h56 : upd (upd H5 p4 (.lst (ns.map V.int))) p5 (.tup (ns.map V.int)) p5 = some (.tup (ns.map V.int)) := upd_same
          generalize upd (upd H5 p4 (.lst (ns.map V.int))) p5 (.tup (ns.map V.int)) = H6 at s6 h56 ⊢
          have hF6 := s6 _ _ hFK
          have hD6 := s6 _ _ hDK
          have hp6 := s6 _ _ hpK
          refine ⟨pf, js, _, rfl, rfl, hF6, small1000 (by rw [jn.len]; omega), ?_⟩
          have tu := tups_upd (o := .lst (js ++ [.ref p5])) hF6
          have hF7 : upd H6 pf (.lst (js ++ [.ref p5])) pf = some (.lst (js ++ [.ref p5])) := upd_same
          have hD7 : upd H6 pf (.lst (js ++ [.ref p5])) D1 = some (.lst ys) := by rw [upd_ne lf1]; exact hD6
          have hp7 : upd H6 pf (.lst (js ++ [.ref p5])) ps = some (.lst cs) := by rw [upd_ne psF]; exact hp6
          have dk7 := (dkK.same s6).updN (o := .lst (js ++ [.ref p5])) pf1.1 pf1.2
          have k7 := kept_upd (o := .lst (js ++ [.ref p5])) (kK.trans (.of s6)) npf0
          have pr7 := (prK.keep (.of s6)).keep tu
          have pc7 := (pcK.keep (.of s6)).keep tu
          have jn7 : JnAt K (upd H6 pf (.lst (js ++ [.ref p5]))) (js ++ [.ref p5]) (nss ++ [ns]) := (jnK.keep fun a zs h => sqT_tups tu (sameT s6 h)).snoc ⟨p5, rfl, .inl (.inl (tu _ _ h56 nofun))⟩
          generalize upd H6 pf (.lst (js ++ [.ref p5])) = H7 at hF7 hD7 hp7 dk7 k7 pr7 pc7 jn7 ⊢
          obtain ⟨pk1, pk2, pk3, pk4⟩ := pick_ok (told := told) (left := left) (ns := ns) (ch := ch) (rest := rest) pmK hle lf.nd hnp hns
          rw [lch] at pk1
          have subn : ∀ k ∈ ns, k ∈ left := by
            intro k hk
            unfold canI at pk2
            rw [Bool.and_eq_true, List.all_eq_true] at pk2
            exact of_decide_eq_true (pk2.1 k hk)
          have lfn := len_left (told := told) lf.nd (asc_nodup pk3 |>.imp fun h => by omega) subn
          refine ⟨_, rfl, .inl ⟨rfl, _, SqL.of hD7⟩, _, rfl, ps, rfl, ⟨_, SqL.of hp7⟩, fun D8 nD8 => ?_⟩
          refine lc_part (b := ps) (SqL.of hp7) pc7 (by omega) nD8 (·.1) (fun q2 H9 R hR => ⟨_, rfl, hR⟩) (fun H8 s8 hD8 => ?_)
          refine ⟨D8, _, rfl, SqL.of hD8, _, rfl, pw, _, rfl, .inr (k7.trans (.of s8) |>.tupG Dk hw), _, rfl, pf, _, rfl, .inl (SqL.of (s8 _ _ hF7)), _, _, rfl, rfl, _, _, rfl, rfl, by show 2 ≤ sizeLine; decide, fun p9 np9 => ?_⟩
          rw [pk4]
          have en2 : (((ws.map V.int).length : Nat) : Int) + (((js ++ [V.ref p5]).length : Nat) : Int) - 1 = (told.length : Int) := by
            rw [List.length_map, List.length_append, List.length_singleton, jn.len]
            omega
          dsimp only
          rw [en2]
          have s9 := s8.trans (same_new (o := .tup [.int (sumW told ns), .int (told.length : Int)]) np9)
          have h99 : upd H8 p9 (.tup [.int (sumW told ns), .int (told.length : Int)]) p9 = some (.tup [.int (sumW told ns), .int (told.length : Int)]) := upd_same
          generalize upd H8 p9 (.tup [.int (sumW told ns), .int (told.length : Int)]) = H9 at s9 h99 ⊢
          have hD9 := s9 _ _ hD7
          have lyr : ys.length ≤ left.length := by
            have e1 : ys.length = rest.length := prK.len
            have e2 := pmK.length_eq
            rw [List.length_append, List.length_map] at e2
            omega
          refine ⟨D1, ys, _, rfl, rfl, hD9, small1000 (by omega), ?_⟩
          have tu9 := tups_upd (o := .lst (ys ++ [.ref p9])) hD9
          refine ⟨_, rfl, told ++ [sumW told ns], leftI told left ns, ys ++ [.ref p9], rest ++ [(sumW told ns, (told.length : Int))], t, js ++ [.ref p5], nss ++ [ns], _, _, _, _, _, _, _, rfl, ((dk7.same s9).updN pl1.1 pl1.2).mono (by omega), kept_upd (k7.trans (.of s9)) npl, upd_same, ((pr7.keep (.of s9)).keep tu9).snoc ⟨p9, rfl, tu9 _ _ h99 nofun⟩, left_perm lf pmK hnp,
            by rw [upd_ne (Ne.symm lf1)]; exact s9 _ _ hF7, jn7.keep (fun a zs h => sqT_tups tu9 (sameT s9 h)), lf.next, okn.next h1 (by omega), pre.next (by omega) lf pk2 pk3, ?_, ?_, ?_, ?_⟩
          · rw [List.length_append, List.length_append, List.length_singleton, List.length_singleton]
            omega
          · rw [List.length_append, List.length_singleton]
            omega
          · intro ns2 h2
            rcases List.mem_append.mp h2 with h2 | h2
            · exact ea ns2 h2
            · rw [List.mem_singleton.mp h2]
              refine ⟨by omega, fun k hk => ?_⟩
              have := lf.lo k (subn k hk)
              omega
          · right
            omega
      · have o1 := okn.1
        have h1 : left.length = 1 := by
          have : ¬ 1 < left.length := fun z => h1 (decide_eq_true (by omega))
          omega
        exact ⟨told, left, ys, qs, size, js, nss, _, y7, y8, y9, y10, y11, y12, rfl, dk.mono (by omega), k, hD, pr, pm, hF, jn, lf, okn, pre, tl, ln, ea, .inl h1⟩
    · rintro σ HI ⟨told, left, ys, qs, size, js, nss, y6, y7, y8, y9, y10, y11, y12, rfl, dk, k, hD, pr, pm, hF, jn, lf, okn, pre, tl, ln, ea, due⟩
      have o1 := okn.1
      refine ⟨_, rfl, pf, _, rfl, .inl ⟨SqL.of hF, fun p np => ?_⟩⟩
      refine q p js nss _ (.inl (.inl upd_same)) (jn.keep fun a zs h => sameT (same_new np) h) ⟨?_, by omega, ea⟩ ((dk.upd np).mono (by omega)) (k.trans (.of (same_new np)))
      have z := pre []
      rw [List.append_nil] at z
      show runD t (firstI t ws.length) ws (rgI ws.length) (nss.map tupD) = true
      rw [z]
      show decide (left.length = 1) = true
      exact decide_eq_true (by omega)
end
end SG

namespace SG
open PySem PySem.Spec PyProof.Rows L2
/-- the dict of what is left: each node's weight -/
def kvI (told left : List Int) : List (Key × V) := left.map fun k => (Sum.inl k, V.int (wt told k))
theorem kv_val {told : List Int} : ∀ (left : List Int) (k : Int), valV (kvI told left) (Sum.inl k) = if k ∈ left then some (V.int (wt told k)) else none
  | [], k => by simp [kvI, valV]
  | a :: r, k => by
    have ih := kv_val (told := told) r k
    by_cases e : a = k
    · subst e
      show valV ((Sum.inl a, V.int (wt told a)) :: kvI told r) (Sum.inl a) = _
      rw [valV_pos rfl, if_pos List.mem_cons_self]
    · show valV ((Sum.inl a, V.int (wt told a)) :: kvI told r) (Sum.inl k) = _
      have ne : ¬ (Sum.inl a : Key) = Sum.inl k := fun z => e (Sum.inl.inj z)
      rw [valV_neg ne, ih]
      have : (k ∈ a :: r) ↔ k ∈ r := by simp [Ne.symm e, eq_comm, e]
      by_cases h : k ∈ r
      · rw [if_pos h, if_pos (this.mpr h)]
      · rw [if_neg h, if_neg (fun z => h (this.mp z))]
theorem kv_drop (told left : List Int) (k : Int) : dropK (kvI told left) (Sum.inl k) = kvI told (left.filter fun j => !decide (j = k)) := by
  unfold dropK kvI
  rw [List.filter_map]
  congr 1
  apply List.filter_congr
  intro j _
  show decide ((Sum.inl j : Key) ≠ Sum.inl k) = _
  by_cases e : j = k
  · subst e; simp
  · have ne : (Sum.inl j : Key) ≠ Sum.inl k := fun z => e (Sum.inl.inj z)
    simp [e, ne]
theorem kv_put {told left : List Int} {x : Int} (lf : Lft told left) : putK (kvI told left) (Sum.inl (told.length : Int)) (V.int x) = kvI (told ++ [x]) (left ++ [(told.length : Int)]) := by
  have hn : (told.length : Int) ∉ left := fun h => by have := (lf.lo _ h).2; omega
  rw [putK_new _ (by rw [kv_val, if_neg hn])]
  unfold kvI
  rw [List.map_append]
  congr 1
  · apply List.map_congr_left
    intro k hk
    obtain ⟨k0, k1⟩ := lf.lo k hk
    rw [wt_app k0 k1]
  · show _ = [((Sum.inl (told.length : Int) : Key), V.int (wt (told ++ [x]) (told.length : Int)))]
    rw [wt_new]
theorem kv_merge (told : List Int) : ∀ (left done : List Int), (done ++ left).Nodup → mergeK (kvI told done) (kvI told left) = kvI told (done ++ left)
  | [], done, _ => by
    rw [List.append_nil]
    rfl
  | a :: r, done, nd => by
    have hn : a ∉ done := fun h => (List.nodup_append.mp nd).2.2 a h a List.mem_cons_self rfl
    show mergeK (putK (kvI told done) (Sum.inl a) (V.int (wt told a))) (kvI told r) = _
    rw [putK_new _ (by rw [kv_val, if_neg hn])]
    have e : kvI told done ++ [((Sum.inl a : Key), V.int (wt told a))] = kvI told (done ++ [a]) := by
      unfold kvI
      rw [List.map_append]
      rfl
    rw [e, kv_merge told r (done ++ [a]) (by rw [List.append_assoc]; exact nd), List.append_assoc]
    rfl
/-- a whole number that is left -/
def okE (left : List Int) : PyData → Bool
  | .int k => decide (k ∈ left)
  | _ => false
theorem okE_ints {left : List Int} : ∀ {ds : List PyData}, ds.all (okE left) = true → ds = (ds.map intD).map PyData.int ∧ ∀ k ∈ ds.map intD, k ∈ left
  | [], _ => ⟨rfl, fun _ h => (nomatch h)⟩
  | D :: ds, h => by
    have h2 : okE left D = true ∧ ds.all (okE left) = true := by simpa using h
    obtain ⟨e, hb⟩ := okE_ints h2.2
    cases D with
    | int i =>
      have hi : i ∈ left := of_decide_eq_true h2.1
      refine ⟨?_, fun k hk => ?_⟩
      · show PyData.int i :: ds = PyData.int i :: (ds.map intD).map PyData.int
        rw [← e]
      · rcases List.mem_cons.mp hk with rfl | hk
        · exact hi
        · exact hb k hk
    | _ => exact absurd h2.1 nofun
theorem asc_uniq : ∀ {a b : List Int}, a.Pairwise (· < ·) → b.Pairwise (· < ·) → (∀ k, k ∈ a ↔ k ∈ b) → a = b
  | [], [], _, _, _ => rfl
  | [], y :: b, _, _, h => absurd ((h y).mpr List.mem_cons_self) List.not_mem_nil
  | x :: a, [], _, _, h => absurd ((h x).mp List.mem_cons_self) List.not_mem_nil
  | x :: a, y :: b, ha, hb, h => by
    have ha2 := List.pairwise_cons.mp ha
    have hb2 := List.pairwise_cons.mp hb
    have e : x = y := by
      rcases List.mem_cons.mp ((h x).mp List.mem_cons_self) with e | hx
      · exact e
      · rcases List.mem_cons.mp ((h y).mpr List.mem_cons_self) with e | hy
        · exact e.symm
        · have := ha2.1 y hy
          have := hb2.1 x hx
          omega
    subst e
    congr 1
    refine asc_uniq ha2.2 hb2.2 fun k => ⟨fun hk => ?_, fun hk => ?_⟩
    · rcases List.mem_cons.mp ((h k).mp (List.mem_cons_of_mem _ hk)) with e | hk2
      · have := ha2.1 k hk
        omega
      · exact hk2
    · rcases List.mem_cons.mp ((h k).mpr (List.mem_cons_of_mem _ hk)) with e | hk2
      · have := hb2.1 k hk
        omega
      · exact hk2
/-- what the law asks of a join is what the program asks -/
theorem step_iff {size : Int} {told left : List Int} {es : List PyData} (lf : Lft told left) :
    (joinD size told.length (.tuple es) = true ∧ canI told left (nodesD (.tuple es)) = true) ↔
      (es.all (okE left) = true ∧ (es.length : Int) = size ∧ (es.map intD).Pairwise (· < ·) ∧ okTop told left (es.map intD) = true) := by
  show _ ↔ _
  constructor
  · rintro ⟨h1, h2⟩
    obtain ⟨ds, e0, e1, hb, hl, ha⟩ := join_ints h1
    cases e0
    have h2 : (((es.map intD).all fun k => decide (k ∈ left)) && okTop told left (es.map intD)) = true := h2
    rw [Bool.and_eq_true] at h2
    refine ⟨?_, by have : ((es.map intD).length : Int) = size := hl; rw [List.length_map] at this; exact this, asc_nodup ha, h2.2⟩
    rw [List.all_eq_true]
    intro D hD
    have e1 : es = (es.map intD).map PyData.int := e1
    rw [e1] at hD
    obtain ⟨k, hk, rfl⟩ := List.mem_map.mp hD
    exact List.all_eq_true.mp h2.1 k hk
  · rintro ⟨h1, h2, h3, h4⟩
    obtain ⟨e, hb⟩ := okE_ints h1
    constructor
    · rw [e]
      exact join_tup (by rw [List.length_map]; exact h2) (fun k hk => lf.lo k (hb k hk)) (asc_of h3)
    · show (((es.map intD).all fun k => decide (k ∈ left)) && okTop told left (es.map intD)) = true
      rw [h4, Bool.and_true, List.all_eq_true]
      exact fun k hk => decide_eq_true (hb k hk)
theorem run_odd {t : Int} : ∀ {ds : List PyData} {size : Int} {told left : List Int}, ds.all isTup = false → runD t size told left ds = false
  | D :: r, size, told, left, h => by
    show (if _ then _ else _) = _
    by_cases e : isTup D = true
    · have h2 : r.all isTup = false := by
        simp only [List.all_cons, e, Bool.true_and] at h
        exact h
      split
      · exact run_odd h2
      · rfl
    · rw [if_neg]
      rintro ⟨h1, _⟩
      obtain ⟨ds, rfl, _⟩ := join_ints h1
      exact e rfl
end SG

namespace SG
open PySem PySem.Spec PyProof.Rows L2
section
variable {K : PySem.W.Frag}
theorem walk_enumT {a : Addr} {xs : List V} : Walk (IteT K a) xs.length (fun H => SqT K H a xs) (YPair (fun i => some (.int (i : Nat))) (fun i => xs[i]?)) := by
  refine ⟨fun i _ hi q => ⟨xs, xs[i], q, by simp [hi]⟩, fun _ q => ⟨xs, q, Nat.le_refl _⟩, fun i H v H' _ q y => ?_⟩
  obtain ⟨T, x, h1, h2, h3, h4⟩ := y
  exact ⟨T, .int (i : Nat), x, h1, h2, h3, rfl, h4 xs q⟩
theorem walk_kvI {d : Addr} {o : Obj} {told left : List Int} : Walk (Itk d o (kvI told left)) (left.map V.int).length (fun H => H d = some (.frz o (.dK (kvI told left)))) (YAt (left.map V.int)) := by
  have e : (left.map V.int).length = (kvI told left).length := by unfold kvI; rw [List.length_map, List.length_map]
  rw [e]
  refine walk_keys.mono (fun _ h => h) ?_
  rintro i H x H' hi h ⟨rfl, k, v, h1, rfl⟩
  refine ⟨rfl, ?_⟩
  unfold kvI at h1
  rw [List.getElem?_map] at h1 ⊢
  obtain ⟨j, h2, h3⟩ := Option.map_eq_some_iff.mp h1
  rw [h2]
  cases h3
  rfl
theorem kvI_len {told left : List Int} : (kvI told left).length = left.length := by unfold kvI; rw [List.length_map]
/-- those of some data that a test doesn't take: none, if it takes all -/
theorem lc_none {J : It} {G : Hp → Prop} {xs : List V} {ds : List PyData} {tt : TT} {s : Nat} {σ : L2.St} {H1 : Hp} {D : Addr} {Qd : Hp → Prop} (w : Walk J xs.length G (YAt xs)) (ha : DxAll K H1 xs ds) (hn : xs.length ≤ 1000) (hs : s < σ.length) (hD : H1 D = none) (g : PyData → Bool) (hG : ∀ H, Same H1 H → G H)
    (turn : ∀ (x : V) (E : PyData) (H2 : Hp), E ∈ ds → Same H1 H2 → Dx K H2 x E → ∀ R : Bool → Hp → Prop, (∀ H3, Same H2 H3 → R (!g E) H3) → tt ((wipe σ [s]).set s (some x)) H2 R)
    (done : ∀ (acc : List V) (H2 : Hp), Same H1 H2 → H2 D = some (.lst acc) → acc.isEmpty = ds.all g → Qd H2) :
    ∃ W : Nat → Nat → Hp → Prop, (∃ m, W 0 m (upd H1 D (.lst []))) ∧ ∀ i m H, W i m H →
      (J.stop i H ∧ Qd H) ∨ (J.go i H ∧ ∃ Nx : Hp → Prop, (∀ H', Nx H' → ∃ m', m' < m ∧ W (i + 1) m' H') ∧ ∀ x H', J.yld i H x H' → gName s x (wipe σ [s]) H' fun σ2 H2 => wipe σ2 [s] = wipe σ [s] ∧ tt σ2 H2 fun b H3 =>
        if b = true then tVar s σ2 H3 fun y H4 => ∃ acc, H4 D = some (.lst acc) ∧ acc.length < sizeLine ∧ Nx (upd H4 D (.lst (acc ++ [y]))) else Nx H3) := by
  have lx := dxA_len ha
  refine lc_same w hn hD (fun i acc _ => acc.isEmpty = (ds.take i).all g) rfl (fun _ _ _ _ _ h => h) hG ?_ ?_
  · rintro i x acc H5 H6 hi s5 ea ⟨rfl, hx⟩ R N hR hN
    obtain ⟨E, h1, h2⟩ := dxA_get (dxA_same s5 ha) hx
    refine ⟨wipe1 _ _ _, ?_⟩
    refine turn x E _ (List.mem_of_getElem? h1) s5 h2 _ fun H3 s3 => ?_
    have e : (ds.take (i + 1)).all g = ((ds.take i).all g && g E) := by
      rw [List.take_add_one, h1, List.all_append]
      simp
    by_cases e2 : g E = true
    · rw [e2]
      refine ifF (by rfl) (hN _ s3 ?_)
      rw [e, e2, Bool.and_true]
      exact ea
    · have e3 : g E = false := by simpa using e2
      rw [e3]
      refine ifT rfl ⟨x, ?_, hR _ _ s3 ?_⟩
      · rw [List.getElem?_set_self (by rw [wipe_length]; exact hs)]
      · rw [e, e3, Bool.and_false]
        cases acc <;> rfl
  · rintro acc H5 s5 hl hD1 ea
    rw [lx, List.take_of_length_le (Nat.le_refl _)] at ea
    exact done acc H5 s5 hD1 ea
theorem eqv_ints : ∀ a b : List Int, PyData.eqv (.list (dI a)) (.list (dI b)) = decide (a = b)
  | [], [] => by simp [dI, PyData.eqv, PyData.eqvAll]
  | [], b :: r => by simp [dI, PyData.eqv, PyData.eqvAll]
  | a :: r, [] => by simp [dI, PyData.eqv, PyData.eqvAll]
  | a :: r, b :: t => by
    have ih := eqv_ints r t
    simp only [PyData.eqv] at ih
    show PyData.eqvAll (PyData.int a :: dI r) (PyData.int b :: dI t) = _
    simp only [PyData.eqvAll, PyData.eqv, ih]
    rw [Bool.eq_iff_iff]
    simp
/-- a node and its weight -/
def prJ (told : List Int) (k : Int) : Int × Int := (k, wt told k)
theorem lc_nodes {a D : Addr} {ws : List Int} {σ : L2.St} {H1 : Hp} {Qd : Hp → Prop} (hS : SqT K H1 a (ws.map V.int)) (hn : ws.length ≤ 1000) (hD : H1 D = none) {s1 s2 : Nat} (h1 : s1 < σ.length) (h2 : s2 < σ.length) (h12 : s1 ≠ s2)
    (done : ∀ (ys : List V) (H2 : Hp), Same H1 H2 → H2 D = some (.lst ys) → PrT H2 ys ((rgI ws.length).map (prJ ws)) → Qd H2) :
    ∃ W : Nat → Nat → Hp → Prop, (∃ m, W 0 m (upd H1 D (.lst []))) ∧ ∀ i m H, W i m H →
      ((IteT K a).stop i H ∧ Qd H) ∨ ((IteT K a).go i H ∧ ∃ Nx : Hp → Prop, (∀ H', Nx H' → ∃ m', m' < m ∧ W (i + 1) m' H') ∧ ∀ x H', (IteT K a).yld i H x H' → gTup K 2 (gCons (gName s1) (gCons (gName s2) gNil)) x (wipe σ [s1, s2]) H' fun σ2 H2 => wipe σ2 [s1, s2] = wipe σ [s1, s2] ∧ tYes σ2 H2 fun b H3 =>
        if b = true then tTup (tCons (tVar s1) (tCons (tVar s2) tNil)) σ2 H3 fun y H4 => ∃ acc, H4 D = some (.lst acc) ∧ acc.length < sizeLine ∧ Nx (upd H4 D (.lst (acc ++ [y]))) else Nx H3) := by
  refine lc_enumT (xs := ws.map V.int) (fun i H2 => Same H1 H2 ∧ ∃ acc, H2 D = some (.lst acc) ∧ acc.length ≤ i ∧ PrT H2 acc (((rgI ws.length).map (prJ ws)).take i)) ⟨same_new hD, [], upd_same, Nat.le_refl _, .nil⟩ (fun i H2 _ p => sameT p.1 hS) ?_ ?_
  · rintro i x H2 T hx ⟨sm, acc, hA, hl, pr⟩ hT
    obtain ⟨k, rfl, hk⟩ := get_int hx
    have hi : i < ws.length := (List.getElem?_eq_some_iff.mp hk).1
    refine ⟨T, _, rfl, .inl (.inl upd_same), rfl, _, _, rfl, _, _, rfl, rfl, wipe2 _ _ _ _ _, ?_⟩
    refine yesI ?_
    have s1' : Same H1 (upd H2 T (.tup [.int (i : Nat), .int k])) := sm.trans (same_new hT)
    have hA2 : (upd H2 T (.tup [.int (i : Nat), .int k])) D = some (.lst acc) := same_new hT _ _ hA
    refine ⟨.int (i : Nat), ?_, .int k, ?_, by show 2 ≤ sizeLine; decide, fun p np => ⟨acc, same_new np _ _ hA2, small1000 (by omega), same_upd_of (s1'.trans (same_new np)) hD, acc ++ [.ref p], upd_same, by rw [List.length_append]; simpa using hl, ?_⟩⟩
    · rw [List.getElem?_set_ne (Ne.symm h12), List.getElem?_set_self (by rw [wipe_length]; exact h1)]
    · rw [List.getElem?_set_self (by rw [List.length_set, wipe_length]; exact h2)]
    · have e : ((rgI ws.length).map (prJ ws)).take (i + 1) = ((rgI ws.length).map (prJ ws)).take i ++ [((i : Int), k)] := by
        have e1 : ((rgI ws.length).map (prJ ws))[i]? = some ((i : Int), k) := by
          unfold rgI
          rw [List.getElem?_map, List.getElem?_map, List.getElem?_range hi]
          show some (prJ ws (i : Int)) = _
          unfold prJ wt
          rw [List.getD_eq_getElem?_getD, Int.toNat_natCast, hk]
          rfl
        rw [List.take_add_one, e1]
        rfl
      rw [e]
      have hp : (upd (upd (upd H2 T (.tup [.int (i : Nat), .int k])) p (.tup [.int (i : Nat), .int k])) D (.lst (acc ++ [.ref p]))) p = some (.tup [.int (i : Nat), .int k]) := by
        have pd : p ≠ D := (ne_of_none hA2 np).symm
        rw [upd_ne pd, upd_same]
      exact (((pr.keep (.of (same_new hT))).keep (.of (same_new np))).keep (tups_upd (same_new np _ _ hA2))).snoc ⟨p, rfl, hp⟩
  · rintro H2 ⟨sm, acc, hA, hl, pr⟩
    rw [List.length_map, List.take_of_length_le (by rw [List.length_map, rg_len]; exact Nat.le_refl _)] at pr
    exact done acc H2 sm hA pr
theorem pr_dict {H : Hp} : ∀ {ys : List V} {qs : List (Int × Int)}, PrT H ys qs → ∃ ps : List Addr, ys = ps.map V.ref ∧ Paired (fun p (kv : Key × V) => SqT K H p [kV kv.1, kv.2]) ps (qs.map fun q => ((Sum.inl q.1 : Key), V.int q.2))
  | _, _, .nil => ⟨[], rfl, .nil⟩
  | _, _, .cons ⟨t, e, h⟩ r => by
    obtain ⟨ps, e2, h2⟩ := pr_dict r
    subst e
    exact ⟨t :: ps, by rw [e2]; rfl, .cons (.inl (.inl h)) h2⟩
theorem kv_start (ws : List Int) : mergeK [] (((rgI ws.length).map (prJ ws)).map fun q => ((Sum.inl q.1 : Key), V.int q.2)) = kvI ws (rgI ws.length) := by
  have z := kv_merge ws (rgI ws.length) [] (by rw [List.nil_append]; exact (lft_start ws).nd)
  rw [List.nil_append] at z
  rw [List.map_map]
  exact z
end
end SG

namespace SG
open PySem PySem.Spec PyProof.Rows L2
section
variable {P : Program} {w : World} {K : PySem.W.Frag} {mg : Str → Option Value} {base : Heap}
theorem dx_kind_int {H : Hp} {x : V} {E : PyData} (h : Dx K H x E) (h1 : isIntLike E = true) (h2 : isBool E = false) : ∃ i, E = .int i ∧ x = .int i := by
  cases h with
  | int i => exact ⟨i, rfl, rfl⟩
  | bl b => cases h2
  | _ => cases h1
theorem okE_odd {left : List Int} {E : PyData} (h : isIntLike E = false) : okE left E = false := by cases E <;> first | rfl | cases h
theorem okE_bool {left : List Int} {E : PyData} (h : isBool E = true) : okE left E = false := by cases E <;> first | rfl | cases h
/-- all but one object stays -/
def But (d : Addr) (H H2 : Hp) : Prop := ∀ b o, H b = some o → b ≠ d → H2 b = some o
theorem But.upd {d : Addr} {H H2 : Hp} {o : HO} (k : But d H H2) : But d H (upd H2 d o) := fun b x h hb => by
  rw [upd_ne hb]
  exact k _ _ h hb
theorem sqT_but {d : Addr} {H H2 : Hp} {kvs : List (Key × V)} (k : But d H H2) (hd : H d = some (.dK kvs)) {a : Addr} {zs : List V} (h : SqT K H a zs) : SqT K H2 a zs := by
  rcases h with (h | ⟨o, h⟩) | h
  · exact .inl (.inl (k _ _ h (ne_of h hd nofun)))
  · exact .inl (.inr ⟨o, k _ _ h (ne_of h hd nofun)⟩)
  · exact .inr h
theorem fil_none {left ns : List Int} : (left.filter fun k => !decide (k ∈ ns.take 0)) = left := by
  rw [List.filter_eq_self]
  intro k _
  simp
theorem take_not {ns : List Int} (h : ns.Nodup) {j : Nat} {k : Int} (hk : ns[j]? = some k) : k ∉ ns.take j := by
  intro hm
  obtain ⟨i, hi⟩ := List.mem_iff_getElem?.mp hm
  rw [List.getElem?_take] at hi
  by_cases e : i < j
  · rw [if_pos e] at hi
    obtain ⟨h1, h2⟩ := List.getElem?_eq_some_iff.mp hk
    obtain ⟨h3, h4⟩ := List.getElem?_eq_some_iff.mp hi
    have := (List.pairwise_iff_getElem.mp h) i j h3 h1 e
    exact this (h4.trans h2.symm)
  · rw [if_neg e] at hi
    cases hi
theorem fil_next {left ns : List Int} {j : Nat} {k : Int} (hk : ns[j]? = some k) : ((left.filter fun k => !decide (k ∈ ns.take j)).filter fun i => !decide (i = k)) = left.filter fun k => !decide (k ∈ ns.take (j + 1)) := by
  rw [List.filter_filter]
  apply List.filter_congr
  intro x _
  rw [List.take_add_one, hk, Bool.eq_iff_iff]
  simp [and_comm]
theorem top_empty {told left ns : List Int} {m : Int} : (((left.filter fun k => !decide (k ∈ ns)).filter fun k => decide (wt told k < m)).map V.int).isEmpty = left.all fun k => decide (k ∈ ns) || decide (m ≤ wt told k) := by
  rw [Bool.eq_iff_iff, List.isEmpty_iff, List.map_eq_nil_iff, List.all_eq_true]
  constructor
  · intro h k hk
    rw [Bool.or_eq_true, decide_eq_true_eq, decide_eq_true_eq]
    by_cases h1 : k ∈ ns
    · exact .inl h1
    · refine .inr (Int.not_lt.mp fun h2 => ?_)
      have : k ∈ (left.filter fun k => !decide (k ∈ ns)).filter fun k => decide (wt told k < m) := List.mem_filter.mpr ⟨List.mem_filter.mpr ⟨hk, by rw [decide_eq_false h1]; rfl⟩, decide_eq_true h2⟩
      rw [h] at this
      cases this
  · intro h
    rw [List.filter_eq_nil_iff]
    intro k hk
    obtain ⟨h1, h2⟩ := List.mem_filter.mp hk
    have z := h k h1
    rw [Bool.or_eq_true, decide_eq_true_eq, decide_eq_true_eq] at z
    rw [decide_eq_true_eq]
    rcases z with z | z
    · rw [decide_eq_true z] at h2
      cases h2
    · omega
theorem ok_are_joins {f : Addr} {fd : FuncData} (F : Fun K "_law_are_joins" "_law_are_joins" s__law_are_joins f fd) (T : Txt mg) : GFn P w K mg base CX0 1 f fd ["_law_letters", "_law_weights_here", "_law_thing"] (spHold K) := by
  refine gfun_ok F sc__law_are_joins (fun vs H Q E h => ?_) (fun cdv A outer s H vs Q E hgu hr h => ?_)
  · obtain ⟨t, pw, ws, x, D, rfl, _⟩ := h
    rfl
  · obtain ⟨t, pw, ws, x, D, rfl, t2, t3, hw, lw, hd, bd, q⟩ := h
    have nd := sc__law_are_joins.nd
    refine ⟨_, (pss_cons (ps_if (PW.pt (pw_or (pt_not (pt_val (pe_callB (k_isi (K := K)) (by rfl) T.isinstance (by decide +kernel) (pa_cons (pv 2) (pa_cons (pe_bltn (v := .ty "tuple") (by rfl) T.tuple (by decide +kernel) rfl) pa_nil))))) (pw_or1 (pt_cmpR (k_neE (K := K) hr.units) (pe_lc (own := [("_law_join", 6)]) rfl nd (pi_tup (pv 2)) (blkOk_by (N := N__law_are_joins) (sc := defScope s__law_are_joins) (by decide +kernel)) (fun _ _ _ _ _ => (pg_name (i := 6) nd rfl (Or.inl rfl))) (fun _ _ _ _ _ => (pts_one (pt_not (pt_val (pe_callB (k_isi (K := K)) (by rfl) T.isinstance (by decide +kernel) (pa_cons (pv 6) (pa_cons (pe_bltn (v := .ty "tuple") (by rfl) T.tuple (by decide +kernel) rfl) pa_nil))))))) (fun _ _ _ _ _ => (pv 6))) (pe_lst pa_nil) (nomark _))))) (pss_one (ps_ret pe_bl)) pss_nil)
      (pss_cons (ps_asg (pe_tup (pa_cons (pe_callTy (k_dictP (K := K) rfl) (by rfl) T.dict (by decide +kernel) (pa_cons (pe_lc (own := [("_law_k", 9), ("_law_weight", 10)]) rfl nd (k_enumT (K := K) (by rfl) T.enumerate (pa_cons (pv 1) pa_nil)) (blkOk_by (N := N__law_are_joins) (sc := defScope s__law_are_joins) (by decide +kernel)) (fun _ _ _ _ _ => (k_tg (K := K) (n := 2) rfl (pgs_cons (pg_name (i := 9) nd rfl (Or.inl rfl)) (pgs_cons (pg_name (i := 10) nd rfl (Or.inl rfl)) pgs_nil)))) (fun _ _ _ _ _ => pts_nil) (fun _ _ _ _ _ => (pe_tup (pa_cons (pv 9) (pa_cons (pv 10) pa_nil))))) pa_nil)) (pa_cons (pe_callTy (k_listOf (K := K)) (by rfl) T.list (by decide +kernel) (pa_cons (pv 1) pa_nil)) pa_nil))) (k_tg (K := K) (n := 2) rfl (pgs_cons (pg_name (i := 3) nd rfl (Or.inr rfl)) (pgs_cons (pg_name (i := 4) nd rfl (Or.inr rfl)) pgs_nil))))
      (pss_cons (ps_for PassesOwn.never rfl (k_enumT (K := K) (by rfl) T.enumerate (pa_cons (pv 2) pa_nil)) (k_tg (K := K) (n := 2) rfl (pgs_cons (pg_name (i := 5) nd rfl (Or.inl rfl)) (pgs_cons (pg_name (i := 6) nd rfl (Or.inl rfl)) pgs_nil)))
        (pss_cons (ps_set (i := 7) nd rfl (Or.inl rfl) (pe_ifExp (PW.pt (pw_or (pt_cmpR op_eq (pv 0) pe_int (nomark _)) (pw_or1 (PW.pt (pw_and (pt_cmpR op_eq (pv 5) pe_int (nomark _)) (pw_and1 (pt_cmpR op_eq (pe_op op_mod (pe_callB (k_len (K := K)) (by rfl) T.len (by decide +kernel) (pa_cons (pv 1) pa_nil)) pe_int) pe_int (nomark _)))))))) pe_int pe_int))
      (pss_cons (ps_if (PW.pt (pw_or (pt_cmpR (k_neE (K := K) hr.units) (pe_lc (own := [("_law_k", 9)]) rfl nd (pi_tup (pv 6)) (blkOk_by (N := N__law_are_joins) (sc := defScope s__law_are_joins) (by decide +kernel)) (fun _ _ _ _ _ => (pg_name (i := 9) nd rfl (Or.inl rfl))) (fun _ _ _ _ _ => (pts_one (PW.pt (pw_or (pt_not (pt_val (pe_callB (k_isi (K := K)) (by rfl) T.isinstance (by decide +kernel) (pa_cons (pv 9) (pa_cons (pe_bltn (v := .ty "int") (by rfl) T.int (by decide +kernel) rfl) pa_nil))))) (pw_or (pt_val (pe_callB (k_isi (K := K)) (by rfl) T.isinstance (by decide +kernel) (pa_cons (pv 9) (pa_cons (pe_bltn (v := .ty "bool") (by rfl) T.bool (by decide +kernel) rfl) pa_nil)))) (pw_or1 (pt_cmp (pc_dnotin (hu_of hr) (pv 9) (pv 3))))))))) (fun _ _ _ _ _ => (pv 9))) (pe_lst pa_nil) (nomark _)) (pw_or1 (pt_cmpR op_ne (pe_callB (k_len (K := K)) (by rfl) T.len (by decide +kernel) (pa_cons (pv 6) pa_nil)) (pv 7) (nomark _))))) (pss_one (ps_ret pe_bl)) pss_nil)
      (pss_cons (ps_if (pt_cmpR (k_neD (K := K) hr.units) (pe_callTy (k_listOf (K := K)) (by rfl) T.list (by decide +kernel) (pa_cons (pv 6) pa_nil)) (pe_callB (k_sortSet (w := w) rfl) (by rfl) T.sorted (by decide +kernel) (pa_cons (pe_callTy (k_setOfI (K := K) (w := w) rfl) (by rfl) T.set (by decide +kernel) (pa_cons (pv 6) pa_nil)) pa_nil)) (nomark _)) (pss_one (ps_ret pe_bl)) pss_nil)
      (pss_cons (ps_set (i := 8) nd rfl (Or.inr rfl) (pe_callB (k_max (K := K) rfl) (by rfl) T.max (by decide +kernel) (pa_cons (pe_lc (own := [("_law_k", 9)]) rfl nd (pi_tup (pv 6)) (blkOk_by (N := N__law_are_joins) (sc := defScope s__law_are_joins) (by decide +kernel)) (fun _ _ _ _ _ => (pg_name (i := 9) nd rfl (Or.inl rfl))) (fun _ _ _ _ _ => pts_nil) (fun _ _ _ _ _ => (pe_dget (hu_of hr) (pv 3) (pv 9) (fun _ _ => rfl)))) pa_nil)))
      (pss_cons (ps_for PassesOwn.never rfl (pi_tup (pv 6)) (pg_name (i := 9) nd rfl (Or.inl rfl))
        (pss_one (ps_expr (pe_dpop1 (pv 3) (pv 9) ⟨by rfl, by rfl, by rfl, by rfl⟩))))
      (pss_cons (ps_if (pt_cmpR (k_neE (K := K) hr.units) (pe_lock (pe_lc (own := [("_law_k", 9)]) rfl nd (pi_keys (pv 3)) (blkOk_by (N := N__law_are_joins) (sc := defScope s__law_are_joins) (by decide +kernel)) (fun _ _ _ _ _ => (pg_name (i := 9) nd rfl (Or.inl rfl))) (fun _ _ _ _ _ => (pts_one (pt_cmpR op_lt (pe_dget (hu_of hr) (pv 3) (pv 9) (fun _ _ => rfl)) (pv 8) (nomark _)))) (fun _ _ _ _ _ => (pv 9)))) (pe_lst pa_nil) (nomark _)) (pss_one (ps_ret pe_bl)) pss_nil)
      (pss_cons (ps_expr (pe_bm PySem.F.plainAttrs_list PySem.F.slot_list_append PySem.F.type_list_append mt_append (pv 4) (pa_cons (pe_callB (k_sum (K := K) rfl) (by rfl) T.sum (by decide +kernel) (pa_cons (pe_lc (own := [("_law_k", 9)]) rfl nd (pi_tup (pv 6)) (blkOk_by (N := N__law_are_joins) (sc := defScope s__law_are_joins) (by decide +kernel)) (fun _ _ _ _ _ => (pg_name (i := 9) nd rfl (Or.inl rfl))) (fun _ _ _ _ _ => pts_nil) (fun _ _ _ _ _ => (pe_ix (k_ixL (K := K)) (pv 4) (pv 9) (fun _ _ => rfl)))) pa_nil)) pa_nil)))
      (pss_one (ps_dput (hu_of hr) (pv 3) (pe_op op_sub (pe_callB (k_len (K := K)) (by rfl) T.len (by decide +kernel) (pa_cons (pv 4) pa_nil)) pe_int) (pe_ix (k_ixL (K := K)) (pv 4) (pe_un un_neg pe_int) (fun _ _ => rfl)) rfl))))))))))
      (pss_one (ps_ret (pe_cmpR op_eq (pe_callB call_lenD (by rfl) T.len (by decide +kernel) (pa_cons (pv 3) pa_nil)) pe_int (nomark _))))))), ?_⟩
    refine ⟨_, rfl, _, _, _, _, _, rfl, .ty "tuple", dx_ty hd, isx_tuple D, _, rfl, ?_⟩
    by_cases e : isTup D = true
    · obtain ⟨ds, rfl⟩ : ∃ ds, D = .tuple ds := by cases D <;> simp [isTup] at e ⊢
      obtain ⟨p, xs, rfl, hp, ha⟩ := dx_tuple hd
      have lx := dxA_len ha
      have bd2 : PyData.bulkAll ds ≤ 800 := by simpa only [PyData.bulk] using bd
      have lb := bulkA_len ds
      refine ifF (by rw [e]; rfl) ?_
      refine ⟨_, rfl, p, rfl, ⟨_, hp⟩, fun D1 nD1 => ?_⟩
      refine lc_none (walk_tup (K := K) (a := p) (xs := xs)) ha (by omega) (by show 6 < 11; decide) nD1 isTup (fun H5 s5 => sameT s5 hp) (fun x E H2 hE s2 h2 R hR => ?_) (fun acc H2 s2 hD2 ea => ?_)
      · exact ⟨_, rfl, _, _, _, _, _, rfl, .ty "tuple", dx_ty h2, isx_tuple E, _, rfl, hR _ (Same.refl _)⟩
      · refine ⟨Nat.zero_le _, fun pz npz => ?_⟩
        have sz : Same H2 (upd H2 pz (.lst [])) := same_new npz
        refine ⟨D1, pz, _, rfl, rfl, .inr ⟨SqL.of (sz _ _ hD2), SqL.of upd_same⟩, _, rfl, ?_⟩
        have s3 := s2.trans sz
        generalize upd H2 pz (.lst []) = H3 at s3 ⊢
        cases eat : ds.all isTup with
        | false =>
          rw [eat] at ea
          refine ifT (by rw [ea]; rfl) ?_
          have z := q H3 s3
          have e2 : holdD t ws (.tuple ds) = false := run_odd eat
          rw [e2] at z
          exact z
        | true =>
          rw [eat] at ea
          refine ifF (by rw [ea]; rfl) ?_
          have hw3 := sameT s3 hw
          refine ⟨_, rfl, pw, _, rfl, hw3, fun D4 nD4 => ?_⟩
          refine lc_nodes (a := pw) (s1 := 9) (s2 := 10) hw3 (by omega) nD4 (by show 9 < 11; decide) (by show 10 < 11; decide) (by decide) (fun ys H5 s5 hD5 pr5 => ?_)
          obtain ⟨ps, rfl, pd⟩ := pr_dict (K := K) pr5
          refine ⟨D4, ps, _, rfl, SqL.of hD5, pd, fun pk npk => ?_⟩
          rw [kv_start]
          have s6 : Same H5 (upd H5 pk (.dK (kvI ws (rgI ws.length)))) := same_new npk
          have hk6 : upd H5 pk (.dK (kvI ws (rgI ws.length))) pk = some (.dK (kvI ws (rgI ws.length))) := upd_same
          have npk0 : H pk = none := (s3.trans s5).free npk
          have s06 := s3.trans (s5.trans s6)
          generalize upd H5 pk (.dK (kvI ws (rgI ws.length))) = H6 at s06 hk6 ⊢
          refine ⟨_, rfl, pw, _, rfl, .inr (sameT s06 hw), fun pt npt => ?_⟩
          have s7 : Same H6 (upd H6 pt (.lst (ws.map V.int))) := same_new npt
          have ht7 : upd H6 pt (.lst (ws.map V.int)) pt = some (.lst (ws.map V.int)) := upd_same
          have hk7 := s7 _ _ hk6
          have npt0 : H pt = none := s06.free npt
          have s07 := s06.trans s7
          generalize upd H6 pt (.lst (ws.map V.int)) = H7 at s07 ht7 hk7 ⊢
          refine ⟨by show 2 ≤ sizeLine; decide, fun T8 n8 => ⟨T8, _, rfl, .inl (.inl upd_same), rfl, _, _, rfl, _, _, rfl, rfl, ?_⟩⟩
          have s8 : Same H7 (upd H7 T8 (.tup [.ref pk, .ref pt])) := same_new n8
          have ht8 := s8 _ _ ht7
          have hk8 := s8 _ _ hk7
          have s08 := s07.trans s8
          generalize upd H7 T8 (.tup [.ref pk, .ref pt]) = H8 at s08 ht8 hk8 ⊢
          have few : ∀ {i : Nat} {Di : PyData}, ds[i]? = some Di → ∀ es, Di = .tuple es → es.length ≤ 1000 := by
            intro i Di hi es e2
            have b1 := bulkA_mem (List.mem_of_getElem? hi)
            rw [e2] at b1
            simp only [PyData.bulk] at b1
            have b2 := bulkA_len es
            omega
          refine ⟨_, rfl, p, _, rfl, sameT s08 hp, ?_⟩
          refine for_it (walk_enumT (K := K) (a := p) (xs := xs)) (fun i σ HI => ∃ (told left : List Int) (y5 y6 y7 y8 y9 y10 : Option V), σ = [some (.int t), some (.ref pw), some (.ref p), some (.ref pk), some (.ref pt), y5, y6, y7, y8, y9, y10] ∧ Same H HI ∧ HI pt = some (.lst (told.map V.int)) ∧
            HI pk = some (.dK (kvI told left)) ∧ Lft told left ∧ told.length = ws.length + i ∧ left.length ≤ ws.length + i ∧ runD t (if i = 0 then firstI t ws.length else t) told left (ds.drop i) = holdD t ws (.tuple ds))
            ⟨ws, rgI ws.length, _, _, _, _, _, _, rfl, s08, ht8, hk8, lft_start ws, rfl, by rw [rg_len]; omega, rfl⟩ (fun i σ HI _ ⟨_, _, _, _, _, _, _, _, _, s3, _⟩ => sameT s3 hp) ?_ ?_
          · rintro i x σ HI HJ hi ⟨told, left, y5, y6, y7, y8, y9, y10, rfl, sI, hT, hL, lf, lt, ll, run⟩ ⟨T9, x9, y, rfl, n9, rfl, e9, hy⟩
            cases e9
            obtain ⟨Di, h1, h2⟩ := dxA_get (dxA_same sI ha) hy
            have hid : i < ds.length := by omega
            have edrop : ds.drop i = Di :: ds.drop (i + 1) := by
              rw [List.drop_eq_getElem_cons hid]
              rw [List.getElem?_eq_getElem hid] at h1
              rw [Option.some.inj h1]
            rw [edrop] at run
            obtain ⟨es, rfl⟩ : ∃ es, Di = .tuple es := by
              have z := List.all_eq_true.mp eat Di (List.mem_of_getElem? h1)
              cases Di <;> simp [isTup] at z ⊢
            obtain ⟨size, hsz⟩ : ∃ size, size = if i = 0 then firstI t ws.length else t := ⟨_, rfl⟩
            rw [← hsz] at run
            have sz2 : 2 ≤ size ∧ size ≤ 3 := by
              rw [hsz]
              unfold firstI
              split
              · split <;> omega
              · omega
            have no : ∀ HZ, Same H HZ → ¬ (es.all (okE left) = true ∧ (es.length : Int) = size ∧ (es.map intD).Pairwise (· < ·) ∧ okTop told left (es.map intD) = true) → Q (.bl false) HZ := by
              intro HZ sZ h
              have z := q HZ sZ
              rw [← run] at z
              unfold runD at z
              rw [if_neg (fun hh => h ((step_iff lf).mp hh))] at z
              exact z
            have s9 : Same HI (upd HI T9 (.tup [.int (i : Nat), y])) := same_new n9
            have h99 : upd HI T9 (.tup [.int (i : Nat), y]) T9 = some (.tup [.int (i : Nat), y]) := upd_same
            have sJ := sI.trans s9
            have hTJ := s9 _ _ hT
            have hLJ := s9 _ _ hL
            have h2J := dx_same s9 h2
            generalize upd HI T9 (.tup [.int (i : Nat), y]) = HJ at h99 sJ hTJ hLJ h2J ⊢
            refine ⟨T9, _, rfl, .inl (.inl h99), rfl, _, _, rfl, _, _, rfl, rfl, ?_⟩
            obtain ⟨py, ys, rfl, hpy, hay⟩ := dx_tuple h2J
            have ly := dxA_len hay
            have lye : es.length ≤ 1000 := few h1 es rfl
            have size0 : ∀ De : Ends, De.nx (([some (.int t), some (.ref pw), some (.ref p), some (.ref pk), some (.ref pt), some (.int (i : Nat)), some (.ref py), y7, y8, y9, y10] : L2.St).set 7 (some (.int size))) HJ → tAsg (tIf (tOr (tTest (tOp rEq (tVar 0) (tC (V.int 2)))) (tAnd (tTest (tOp rEq (tVar 5) (tC (V.int 0)))) (tTest (tOp rEq (tOp (rI (fun x j => 0 < j) fun i j => V.int (i % j)) (tCB (rLenS K) (tCons (tVar 1) tNil)) (tC (V.int 2))) (tC (V.int 0)))))) (tC (V.int 2)) (tC (V.int 3))) (gName 7) De
                [some (.int t), some (.ref pw), some (.ref p), some (.ref pk), some (.ref pt), some (.int (i : Nat)), some (.ref py), y7, y8, y9, y10] HJ := by
              intro De hq
              refine ⟨_, rfl, rfl, _, rfl, ?_⟩
              by_cases e2 : t = 2
              · refine ifT (by rw [dec_int, e2]; rfl) (ifT rfl ?_)
                have : size = 2 := by rw [hsz]; unfold firstI; split <;> (try split) <;> omega
                rw [this] at hq
                exact hq
              · refine ifF (by rw [dec_int]; simpa using e2) ⟨_, rfl, rfl, _, rfl, ?_⟩
                by_cases e3 : i = 0
                · refine ifT (by rw [dec_int, e3]; rfl) ⟨_, rfl, pw, _, rfl, .inr (sameT sJ hw), _, _, rfl, rfl, (by show (0 : Int) < 2; decide), rfl, _, rfl, ite2 (fun h => ?_) (fun h => ?_)⟩
                  · rw [dec_int, beq_iff_eq, List.length_map] at h
                    have : size = 2 := by rw [hsz]; unfold firstI; rw [if_pos e3, if_pos (by omega)]
                    rw [this] at hq
                    exact hq
                  · rw [dec_int, beq_iff_eq, List.length_map] at h
                    have : size = 3 := by rw [hsz]; unfold firstI; rw [if_pos e3, if_neg (by omega)]; omega
                    rw [this] at hq
                    exact hq
                · refine ifF (by rw [dec_int]; simpa using e3) (ifF rfl ?_)
                  have : size = 3 := by rw [hsz, if_neg e3]; omega
                  rw [this] at hq
                  exact hq
            refine size0 _ ?_
            refine ⟨_, rfl, py, rfl, ⟨_, hpy⟩, fun D1 nD1 => ?_⟩
            refine lc_none (walk_tup (K := K) (a := py) (xs := ys)) hay (by omega) (by show 9 < 11; decide) nD1 (okE left) (fun H5 s5 => sameT s5 hpy) (fun x E H2 hE s2 h2 R hR => ?_) (fun acc H2 s2 hD2 ea => ?_)
            · refine ⟨_, rfl, _, _, _, _, _, rfl, .ty "int", dx_ty h2, isx_int E, _, rfl, ?_⟩
              cases e1 : isIntLike E with
              | false =>
                refine ifT (by rfl) ?_
                have z := hR _ (Same.refl _)
                rw [okE_odd e1] at z
                exact z
              | true =>
                refine ifF (by rfl) ⟨_, rfl, _, _, _, _, _, rfl, .ty "bool", dx_ty h2, isx_bool E, _, rfl, ?_⟩
                cases e2 : isBool E with
                | true =>
                  refine ifT (by rfl) ?_
                  have z := hR _ (Same.refl _)
                  rw [okE_bool e2] at z
                  exact z
                | false =>
                  obtain ⟨j, rfl, rfl⟩ := dx_kind_int h2 e1 e2
                  refine ifF (by rfl) ⟨_, rfl, _, rfl, pk, _, rfl, DGet.k (k := .inl j) (s2 _ _ hLJ), _, rfl, ?_⟩
                  have z := hR _ (Same.refl _)
                  rw [kv_val]
                  by_cases e3 : j ∈ left
                  · rw [if_pos e3]
                    have : okE left (.int j) = true := decide_eq_true e3
                    rw [this] at z
                    exact z
                  · rw [if_neg e3]
                    have : okE left (.int j) = false := decide_eq_false e3
                    rw [this] at z
                    exact z
            · refine ⟨Nat.zero_le _, fun pz npz => ?_⟩
              have sz : Same H2 (upd H2 pz (.lst [])) := same_new npz
              refine ⟨D1, pz, _, rfl, rfl, .inr ⟨SqL.of (sz _ _ hD2), SqL.of upd_same⟩, _, rfl, ?_⟩
              have s3 := s2.trans sz
              generalize upd H2 pz (.lst []) = H3 at s3 ⊢
              have s03 := sJ.trans s3
              cases eok : es.all (okE left) with
              | false =>
                rw [eok] at ea
                refine ifT (by rw [ea]; rfl) ?_
                exact no _ s03 (fun z => by rw [eok] at z; exact absurd z.1 nofun)
              | true =>
              rw [eok] at ea
              obtain ⟨ees, esub⟩ := okE_ints eok
              generalize hns : es.map intD = ns at ees esub no run
              have eln : es.length = ns.length := by rw [← hns, List.length_map]
              have hys : ys = ns.map V.int := by
                rw [ees] at hay
                exact dxA_ints hay
              subst hys
              have hp3 := sameT s3 hpy
              refine ifF (by rw [ea]; rfl) ⟨_, rfl, py, _, rfl, .inr hp3, _, rfl, rfl, _, rfl, ?_⟩
              rw [dec_int, List.length_map]
              by_cases elen : ((ns.length : Int) = size)
              case neg =>
                refine ifT (by simpa using elen) ?_
                exact no _ s03 (fun z => elen (by rw [← eln]; exact z.2.1))
              refine ifF (by simpa using elen) ?_
              have ln3 : ns.length ≤ 3 := by omega
              -- ascending
              refine ⟨_, rfl, py, _, rfl, .inr hp3, fun pa npa => ?_⟩
              have s4 : Same H3 (upd H3 pa (.lst (ns.map V.int))) := same_new npa
              have ha4 : upd H3 pa (.lst (ns.map V.int)) pa = some (.lst (ns.map V.int)) := upd_same
              generalize upd H3 pa (.lst (ns.map V.int)) = H4 at s4 ha4 ⊢
              refine ⟨_, rfl, py, ns, rfl, sameT s4 hp3, by omega, fun pS n nS hnS => ?_⟩
              have s5 : Same H4 (upd H4 pS (SetO w pS (fun j => decide (j ∈ ns)) n)) := same_new nS
              have hS5 : upd H4 pS (SetO w pS (fun j => decide (j ∈ ns)) n) pS = some (SetO w pS (fun j => decide (j ∈ ns)) n) := upd_same
              generalize upd H4 pS (SetO w pS (fun j => decide (j ∈ ns)) n) = H5 at s5 hS5 ⊢
              refine ⟨pS, _, n, rfl, hS5, by omega, fun ms pm asc mem lm npm => ?_⟩
              have s6 : Same H5 (upd H5 pm (.lst (ms.map V.int))) := same_new npm
              have hm6 : upd H5 pm (.lst (ms.map V.int)) pm = some (.lst (ms.map V.int)) := upd_same
              generalize upd H5 pm (.lst (ms.map V.int)) = H6 at s6 hm6 ⊢
              refine ⟨.list (dI ns), .list (dI ms), .lst (SqL.of (s6 _ _ (s5 _ _ ha4))) (dpInts _), .lst (SqL.of hm6) (dpInts _), shI _, shI _, _, rfl, ?_⟩
              rw [eqv_ints]
              have s36 := s4.trans (s5.trans s6)
              have s06 := s03.trans s36
              have hp6 := sameT s36 hp3
              have hT6 := s36 _ _ (s3 _ _ hTJ)
              have hL6 := s36 _ _ (s3 _ _ hLJ)
              have eas : (ns = ms) ↔ ns.Pairwise (· < ·) := ⟨fun z => by rw [z]; exact asc, fun z => asc_uniq z asc fun k => by
                have := mem k
                rw [decide_eq_true_eq] at this
                exact this.symm⟩
              by_cases easc : ns = ms
              case neg => exact ifT (by simpa using easc) (no _ s06 (fun z => easc (eas.mpr z.2.2.1)))
              refine ifF (by simpa using easc) ?_
              have pasc := eas.mp easc
              have nsn : ns.Nodup := pasc.imp fun h => by omega
              refine ⟨_, rfl, py, rfl, ⟨_, hp6⟩, fun D7 nD7 => ?_⟩
              refine lc_nums (walk_tup (K := K) (a := py)) (by omega) nD7 (wt told) (fun H8 s8 => sameT s8 hp6) (fun k H8 hk s8 R hR => ?_) (fun H8 s8 hD8 => ?_)
              · have z := DGet.k (k := .inl k) (s8 _ _ hL6)
                rw [kv_val, if_pos (esub k hk)] at z
                exact ⟨_, rfl, _, rfl, pk, _, rfl, z, hR _ (Same.refl _)⟩
              refine ⟨D7, _, rfl, SqL.of hD8, by rw [List.length_map]; omega, fun m hm1 hm2 => ?_⟩
              have hp8 := sameT s8 hp6
              have hT8 := s8 _ _ hT6
              have hL8 := s8 _ _ hL6
              have s08 := s06.trans s8
              refine ⟨_, rfl, py, rfl, ⟨_, hp8⟩, for_it (walk_tup (K := K) (a := py) (xs := ns.map V.int)) (fun j σ HK => ∃ y9, σ = [some (.int t), some (.ref pw), some (.ref p), some (.ref pk), some (.ref pt), some (.int (i : Nat)), some (.ref py), some (.int size), some (.int m), y9, y10] ∧ But pk H8 HK ∧
                HK pk = some (.dK (kvI told (left.filter fun k => !decide (k ∈ ns.take j))))) ⟨_, rfl, fun _ _ h _ => h, by rw [fil_none]; exact hL8⟩ (fun j σ HK _ ⟨_, _, kK, _⟩ => sqT_but kK hL8 hp8) ?_ ?_⟩
              · rintro j x σ HK HL hj ⟨y9, rfl, kK, hK⟩ ⟨rfl, hx⟩
                obtain ⟨k, rfl, hk⟩ := get_int hx
                have km : k ∈ left.filter fun k => !decide (k ∈ ns.take j) := List.mem_filter.mpr ⟨esub k (List.mem_of_getElem? hk), by rw [decide_eq_false (take_not nsn hk)]; rfl⟩
                refine ⟨_, rfl, pk, rfl, .inl ⟨_, .inl hK⟩, _, rfl, _, .inl k, _, hK, rfl, by rw [kv_val, if_pos km], _, rfl, kK.upd, ?_⟩
                rw [upd_same, kv_drop, fil_next hk]
              · rintro σ HK ⟨y9, rfl, kK, hK⟩
                rw [List.length_map, List.take_of_length_le (Nat.le_refl _)] at hK
                generalize hL2 : (left.filter fun k => !decide (k ∈ ns)) = L2 at hK
                have lfL : Lft told L2 := by
                  rw [← hL2]
                  exact ⟨fun k hk => lf.lo k (List.mem_filter.mp hk).1, lf.nd.filter _⟩
                have lL2 : L2.length ≤ left.length := by
                  rw [← hL2]
                  exact List.length_filter_le _ _
                have cnt := len_left (told := told) lf.nd nsn esub
                refine ⟨pk, _, hK, trivial, fun od => ⟨_, rfl, pk, od, rfl, .inl ⟨_, upd_same, fun D9 nD9 => ?_⟩⟩⟩
                refine lc_pass walk_kvI (by omega) (by show 9 < 11; decide) nD9 (fun k => decide (wt told k < m)) (fun H7 s7 => s7 _ _ upd_same) (fun k H9 hk s9 R hR => ?_) (fun H9 s9 hD9 => ?_)
                · have z : DGet H9 pk (.int k) (valV (kvI told L2) (.inl k)) := .inl ⟨_, .inl k, .inr ⟨od, s9 _ _ upd_same⟩, rfl, rfl⟩
                  rw [kv_val, if_pos hk] at z
                  exact ⟨_, rfl, _, rfl, pk, _, rfl, z, _, rfl, _, _, rfl, rfl, _, rfl, hR _ (Same.refl _)⟩
                · have Dpk : D9 ≠ pk := fun z => by rw [z, upd_same] at nD9; cases nD9
                  have kM : But pk H8 (upd H9 pk (.dK (kvI told L2))) := fun b o h hb => by
                    rw [upd_ne hb]
                    exact s9 _ _ (by rw [upd_ne hb]; exact kK _ _ h hb)
                  have hM : upd H9 pk (.dK (kvI told L2)) pk = some (.dK (kvI told L2)) := upd_same
                  have hDM : upd H9 pk (.dK (kvI told L2)) D9 = some (.lst ((L2.filter fun k => decide (wt told k < m)).map V.int)) := by rw [upd_ne Dpk]; exact hD9
                  refine ⟨s9 _ _ upd_same, Nat.zero_le _, fun pz npz => ?_⟩
                  generalize upd H9 pk (.dK (kvI told L2)) = HM at kM hM hDM npz ⊢
                  have sz : Same HM (upd HM pz (.lst [])) := same_new npz
                  refine ⟨D9, pz, _, rfl, rfl, .inr ⟨SqL.of (sz _ _ hDM), SqL.of upd_same⟩, _, rfl, ?_⟩
                  have kN : But pk H8 (upd HM pz (.lst [])) := fun b o h hb => sz _ _ (kM _ _ h hb)
                  have hN := sz _ _ hM
                  generalize upd HM pz (.lst []) = HN at kN hN ⊢
                  have s0N : Same H HN := fun b o h => by
                    have hb : b ≠ pk := ne_of_none h npk0
                    exact kN _ _ (s08 _ _ h) hb
                  have etop : (!((L2.filter fun k => decide (wt told k < m)).map V.int).isEmpty) = !okTop told left ns := by
                    rw [okTop_max hm1 hm2, ← hL2, top_empty]
                  rw [etop]
                  cases eto : okTop told left ns with
                  | false =>
                    refine ifT (by rfl) ?_
                    exact no _ s0N (fun z => by rw [eto] at z; exact absurd z.2.2.2 nofun)
                  | true =>
                    refine ifF (by rfl) ?_
                    have ptk : pt ≠ pk := ne_of hT8 hL8 nofun
                    have hTN := kN _ _ hT8 ptk
                    have hpN := sqT_but kN hL8 hp8
                    refine ⟨_, rfl, .inl ⟨rfl, _, SqL.of hTN⟩, ?_⟩
                    refine ⟨_, rfl, py, rfl, ⟨_, hpN⟩, fun D2 nD2 => ?_⟩
                    refine lc_nums (walk_tup (K := K) (a := py)) (by omega) nD2 (wt told) (fun H9 s9 => sameT s9 hpN) (fun k HO hk sO R hR => ?_) (fun HO sO hDO => ?_)
                    · obtain ⟨k0, k1⟩ := lf.lo k (esub k hk)
                      exact ⟨_, rfl, _, rfl, pt, _, k.toNat, _, rfl, by rw [← int_nat k0], sO.seq (SqL.of hTN), atI_nat (wt_at k0 k1), hR _ (Same.refl _)⟩
                    · have hTO := sO _ _ hTN
                      have hLO := sO _ _ hN
                      refine ⟨D2, _, rfl, SqL.of hDO, pt, _, _, rfl, rfl, hTO, ?_, ?_⟩
                      · rw [List.length_map]
                        exact small1000 (by omega)
                      · have eT : told.map V.int ++ [V.int (ns.map (wt told)).sum] = (told ++ [sumW told ns]).map V.int := by
                          rw [List.map_append]
                          rfl
                        rw [eT]
                        have sF : Same H (upd HO pt (.lst ((told ++ [sumW told ns]).map V.int))) := same_upd_of (s0N.trans sO) npt0
                        have hTF : upd HO pt (.lst ((told ++ [sumW told ns]).map V.int)) pt = some (.lst ((told ++ [sumW told ns]).map V.int)) := upd_same
                        have hLF : upd HO pt (.lst ((told ++ [sumW told ns]).map V.int)) pk = some (.dK (kvI told L2)) := by rw [upd_ne (Ne.symm ptk)]; exact hLO
                        generalize upd HO pt (.lst ((told ++ [sumW told ns]).map V.int)) = HF at sF hTF hLF ⊢
                        refine ⟨_, rfl, 1, rfl, pt, _, -1, .int (sumW told ns), rfl, rfl, SqL.of hTF, by rw [List.map_append]; exact atI_last, _, rfl, _, rfl, pt, _, rfl, .inl (SqL.of hTF), _, _, rfl, rfl, pk, _, rfl, .inl ⟨_, .inl (told.length : Int), hLF, ?_, ?_, rfl⟩, ?_⟩
                        · show V.int _ = V.int _
                          rw [List.length_map, List.length_append, List.length_singleton]
                          congr 1
                          omega
                        · rw [kvI_len]
                          exact small1000 (by omega)
                        · rw [kv_put lfL]
                          refine ⟨told ++ [sumW told ns], leftI told left ns, _, _, _, _, _, _, rfl, same_upd_of sF npk0, by rw [upd_ne ptk]; exact hTF, ?_, lf.next, ?_, ?_, ?_⟩
                          · rw [upd_same, ← hL2]
                            rfl
                          · rw [List.length_append, List.length_singleton]
                            omega
                          · omega
                          · rw [← run]
                            have hh := (step_iff (size := size) (es := es) lf).mpr ⟨eok, by rw [eln]; exact elen, by rw [hns]; exact pasc, by rw [hns]; exact eto⟩
                            show runD t t (told ++ [sumW told ns]) (leftI told left ns) (ds.drop (i + 1)) = if joinD size told.length (.tuple es) = true ∧ canI told left (nodesD (.tuple es)) = true then runD t t (told ++ [sumW told (nodesD (.tuple es))]) (leftI told left (nodesD (.tuple es))) (ds.drop (i + 1)) else false
                            rw [if_pos hh]
                            show _ = runD t t (told ++ [sumW told (es.map intD)]) (leftI told left (es.map intD)) (ds.drop (i + 1))
                            rw [hns]
          · rintro σ HI ⟨told, left, y5, y6, y7, y8, y9, y10, rfl, sI, hT, hL, lf, lt, ll, run⟩
            have e0 : ds.drop xs.length = [] := List.drop_eq_nil_of_le (by omega)
            rw [e0] at run
            refine ⟨_, rfl, pk, _, rfl, hL, rfl, ?_⟩
            have z := q HI sI
            rw [← run] at z
            have e3 : decide (V.int ((kvI told left).length : Nat) = V.int 1) = decide (left.length = 1) := by
              rw [dec_int, kvI_len, Bool.eq_iff_iff, beq_iff_eq, decide_eq_true_eq]
              omega
            rw [e3]
            exact z
    · refine ifT (by simp [e]) (ifT rfl ?_)
      have z := q H (Same.refl H)
      have e2 : holdD t ws D = false := by cases D <;> simp [isTup, holdD] at e ⊢
      rw [e2] at z
      exact z
end
end SG

namespace SG
open PySem PySem.Spec PyProof.Rows L2
section
variable {K : PySem.W.Frag}
/-- joins that hold stand there -/
def JI (K : PySem.W.Frag) (t : Int) (ws : List Int) (H : Hp) (x : V) : Prop := ∃ (p : Addr) (xs : List V) (nss : List (List Int)), x = .ref p ∧ SqT K H p xs ∧ JnAt K H xs nss ∧ GoodJ t ws nss
theorem JI.tups {t : Int} {ws : List Int} {H H2 : Hp} {x : V} (k : Tups H H2) (h : JI K t ws H x) : JI K t ws H2 x := by
  obtain ⟨p, xs, nss, e, h1, h2, h3⟩ := h
  exact ⟨p, xs, nss, e, sqT_tups k h1, h2.keep fun a ys h => sqT_tups k h, h3⟩
theorem JI.kept {d l : Addr} {c : Nat} {t : Int} {ws : List Int} {H H2 : Hp} {x : V} (Dk : Dek H d l c) (k : Kept d l H H2) (h : JI K t ws H x) : JI K t ws H2 x := by
  obtain ⟨p, xs, nss, e, h1, h2, h3⟩ := h
  exact ⟨p, xs, nss, e, k.tupG Dk h1, h2.keep fun a ys h => k.tupG Dk h, h3⟩
theorem JnAt.get {H : Hp} : ∀ {xs : List V} {nss : List (List Int)} {i : Nat} {x : V}, JnAt K H xs nss → xs[i]? = some x → ∃ ns a, nss[i]? = some ns ∧ x = .ref a ∧ SqT K H a (ns.map V.int)
  | _, _, _, _, .nil, e => by simp at e
  | _, _, 0, _, .cons ⟨a, e2, h⟩ r, e => by
    simp at e
    subst e
    exact ⟨_, a, rfl, e2, h⟩
  | _, _, i + 1, x, .cons _ r, e => by
    obtain ⟨ns, a, h1, h2, h3⟩ := JnAt.get (i := i) (x := x) r (by simpa using e)
    exact ⟨ns, a, by simpa using h1, h2, h3⟩
/-- each of some joins turned -/
theorem lc_revs {a : Addr} {xs : List V} {nss : List (List Int)} {s : Nat} {σ : L2.St} {H1 : Hp} {D : Addr} {Qd : Hp → Prop} (hS : SqT K H1 a xs) (jn : JnAt K H1 xs nss) (hn : xs.length ≤ 1000) (hs : s < σ.length) (hD : H1 D = none)
    (done : ∀ (acc : List V) (H2 : Hp), Same H1 H2 → H2 D = some (.lst acc) → JnAt K H2 acc (nss.map List.reverse) → Qd H2) :
    ∃ W : Nat → Nat → Hp → Prop, (∃ m, W 0 m (upd H1 D (.lst []))) ∧ ∀ i m H, W i m H →
      ((Itt K a).stop i H ∧ Qd H) ∨ ((Itt K a).go i H ∧ ∃ Nx : Hp → Prop, (∀ H', Nx H' → ∃ m', m' < m ∧ W (i + 1) m' H') ∧ ∀ x H', (Itt K a).yld i H x H' → gName s x (wipe σ [s]) H' fun σ2 H2 => wipe σ2 [s] = wipe σ [s] ∧ tYes σ2 H2 fun b H3 =>
        if b = true then tRevX K (tVar s) σ2 H3 fun y H4 => ∃ acc, H4 D = some (.lst acc) ∧ acc.length < sizeLine ∧ Nx (upd H4 D (.lst (acc ++ [y]))) else Nx H3) := by
  refine lc_same (walk_tup (K := K) (a := a) (xs := xs)) hn hD (fun i acc H => JnAt K H acc ((nss.take i).map List.reverse)) .nil (fun _ _ _ _ k h => h.keep fun a ys h => sqT_tups k h) (fun H5 s5 => sameT s5 hS) ?_ ?_
  · rintro i x acc H5 H6 hi s5 jn2 ⟨rfl, hx⟩ R N hR hN
    obtain ⟨ns, a2, h1, rfl, h3⟩ := jn.get hx
    refine ⟨wipe1 _ _ _, ?_⟩
    refine yesI (A := fun H7 => _) ?_
    refine ⟨_, by rw [List.getElem?_set_self (by rw [wipe_length]; exact hs)], .inl ⟨a2, _, rfl, sameT s5 h3, fun r nr => hR _ _ (same_new nr) ?_⟩⟩
    rw [List.take_add_one, h1, List.map_append]
    refine (jn2.keep fun a ys h => sameT (same_new nr) h).snoc ⟨r, rfl, .inl (.inl ?_)⟩
    rw [upd_same, List.map_reverse]
  · rintro acc H5 s5 hl hD1 jn2
    rw [jn.len, List.take_of_length_le (Nat.le_refl _)] at jn2
    exact done acc H5 s5 hD1 jn2
/-- a comprehension over range(n) whose turns draw so much each -/
theorem lc_drawsN {d l D : Addr} {c n m s : Nat} {te : TE} {σ : L2.St} {H1 : Hp} {Qd : Hp → Prop} {B : Hp → V → Prop} (BT : ∀ H H' x, Tups H H' → B H x → B H' x) (BK : ∀ H H' c x, Dek H d l c → Kept d l H H' → B H x → B H' x) (D0 : Dek H1 d l c) (hD : H1 D = none) (hn : n ≤ 1000)
    (turn : ∀ (i : Nat) (H2 : Hp), i < n → Dek H2 d l (c + m * i) → Kept d l H1 H2 → ∀ R : VK, (∀ (x : V) (H3 : Hp), B H3 x → Dek H3 d l (c + m * i + m) → Kept d l H2 H3 → R x H3) → te ((wipe σ [s]).set s (some (.int (0 + i)))) H2 R)
    (done : ∀ (xs : List V) (H2 : Hp), xs.length = n → (∀ x ∈ xs, B H2 x) → H2 D = some (.lst xs) → Dek H2 d l (c + m * n) → Kept d l H1 H2 → Qd H2) :
    ∃ W : Nat → Nat → Hp → Prop, (∃ m, W 0 m (upd H1 D (.lst []))) ∧ ∀ i m H, W i m H →
      ((Itr 0 n).stop i H ∧ Qd H) ∨ ((Itr 0 n).go i H ∧ ∃ Nx : Hp → Prop, (∀ H2, Nx H2 → ∃ m2, m2 < m ∧ W (i + 1) m2 H2) ∧ ∀ x H2, (Itr 0 n).yld i H x H2 → gName s x (wipe σ [s]) H2 fun σ2 H3 => wipe σ2 [s] = wipe σ [s] ∧ tYes σ2 H3 fun b H4 =>
        if b = true then te σ2 H4 fun y H5 => ∃ acc, H5 D = some (.lst acc) ∧ acc.length < sizeLine ∧ Nx (upd H5 D (.lst (acc ++ [y]))) else Nx H4) := by
  obtain ⟨nd, nl⟩ := D0.ne hD
  refine lc_range (fun i H2 => ∃ xs : List V, xs.length = i ∧ (∀ x ∈ xs, B H2 x) ∧ H2 D = some (.lst xs) ∧ Dek H2 d l (c + m * i) ∧ Kept d l H1 H2) ?_ ?_ ?_
  · exact ⟨[], rfl, (fun _ h => absurd h List.not_mem_nil), upd_same, D0.upd hD, .of (same_new hD)⟩
  · rintro i H2 hi ⟨xs, hx, hB, hD2, D2, k2⟩
    refine ⟨wipe1 _ _ _, ?_⟩
    refine yesI ?_
    refine turn i H2 hi D2 k2 _ fun x H3 hb D3 k3 => ⟨xs, k3 _ _ hD2 nd nl, ?_, xs ++ [x], by simp [hx], fun y hy => ?_, upd_same, ?_, ?_⟩
    · rw [hx]
      exact small1000 (by omega)
    · have tu := tups_upd (o := .lst (xs ++ [x])) (k3 _ _ hD2 nd nl)
      rcases List.mem_append.mp hy with h | h
      · exact BT _ _ _ tu (BK _ _ _ _ D2 k3 (hB y h))
      · rw [List.mem_singleton.mp h]; exact BT _ _ _ tu hb
    · have e : c + m * (i + 1) = c + m * i + m := by rw [Nat.mul_add, Nat.mul_one, Nat.add_assoc]
      rw [e]
      exact D3.updN nd nl
    · exact kept_upd (k2.trans k3) hD
  · rintro H2 ⟨xs, hx, hB, hD2, D2, k2⟩
    exact done xs H2 hx hB hD2 D2 k2
/-- those of a list that a test takes: none -/
theorem lc_empty {J : It} {G : Hp → Prop} {xs : List V} {tt : TT} {te : TE} {s : Nat} {σ : L2.St} {H1 : Hp} {D : Addr} {Qd : Hp → Prop} (w : Walk J xs.length G (YAt xs)) (hn : xs.length ≤ 1000) (hD : H1 D = none) (hG : ∀ H, Same H1 H → G H)
    (turn : ∀ (x : V) (H2 : Hp), x ∈ xs → Same H1 H2 → ∀ R : Bool → Hp → Prop, (∀ H3, Same H2 H3 → R false H3) → tt ((wipe σ [s]).set s (some x)) H2 R)
    (done : ∀ (H2 : Hp), Same H1 H2 → H2 D = some (.lst []) → Qd H2) :
    ∃ W : Nat → Nat → Hp → Prop, (∃ m, W 0 m (upd H1 D (.lst []))) ∧ ∀ i m H, W i m H →
      (J.stop i H ∧ Qd H) ∨ (J.go i H ∧ ∃ Nx : Hp → Prop, (∀ H', Nx H' → ∃ m', m' < m ∧ W (i + 1) m' H') ∧ ∀ x H', J.yld i H x H' → gName s x (wipe σ [s]) H' fun σ2 H2 => wipe σ2 [s] = wipe σ [s] ∧ tt σ2 H2 fun b H3 =>
        if b = true then te σ2 H3 fun y H4 => ∃ acc, H4 D = some (.lst acc) ∧ acc.length < sizeLine ∧ Nx (upd H4 D (.lst (acc ++ [y]))) else Nx H3) := by
  refine lc_same w hn hD (fun i acc _ => acc = []) rfl (fun _ _ _ _ _ h => h) hG ?_ ?_
  · rintro i x acc H5 H6 hi s5 rfl ⟨rfl, hx⟩ R N hR hN
    refine ⟨wipe1 _ _ _, ?_⟩
    refine turn x _ (List.mem_of_getElem? hx) s5 _ fun H3 s3 => ifF (by rfl) (hN _ s3 rfl)
  · rintro acc H5 s5 hl hD1 rfl
    exact done H5 s5 hD1
section
variable {d l : Addr} {c n b m t : Nat} {σ : L2.St} {H : Hp}
theorem cat_wx {ta : TA} {N i j : Nat} {p : Addr} {xs : List V} {De : Ends} (e : σ[i]? = some (some (.ref p))) (hp : H p = some (.lst xs)) (it0 : ∀ x ∈ xs, Itm K d l n b m t H x) (lit : WxA K d l c n b m t σ H ta N) (dk : Dek H d l c) (hN : xs.length + N ≤ 1000)
    (q : ∀ (p2 : Addr) (ys : List V) (H2 : Hp), Same H H2 → Dek H2 d l c → p2 ≠ d → p2 ≠ l → H p2 = none → H2 p2 = some (.lst ys) → (∀ y ∈ ys, Itm K d l n b m t H2 y) → ys.length = xs.length + N → De.nx (σ.set j (some (.ref p2))) H2) :
    tAsg (tOp rCat (tVar i) (tLst ta)) (gName j) De σ H := by
  refine ⟨_, e, lit H _ (Same.refl H) dk fun zs H1 s1 dk1 it hl => ⟨Nat.le_of_lt (small1000 (by omega)), fun p1 np1 => ?_⟩⟩
  have s2 : Same H (upd H1 p1 (.lst zs)) := s1.trans (same_new np1)
  have dk2 := dk1.upd (o := .lst zs) np1
  have h1 : upd H1 p1 (.lst zs) p1 = some (.lst zs) := upd_same
  refine ⟨p, p1, xs, zs, rfl, rfl, s2 _ _ hp, h1, Nat.le_of_lt (small1000 (by omega)), fun p2 np2 => ?_⟩
  refine q p2 _ _ (s2.trans (same_new np2)) (dk2.upd np2) (dk2.ne np2).1 (dk2.ne np2).2 (s2.free np2) upd_same (fun y hy => ?_) (by rw [List.length_append, hl])
  rcases List.mem_append.mp hy with h | h
  · exact (it0 y h).same (s2.trans (same_new np2))
  · exact (it y h).same ((same_new np1).trans (same_new np2))
end
theorem bulk_dI : ∀ ns : List Int, PyData.bulkAll (dI ns) = ns.length
  | [] => by simp [dI, PyData.bulkAll]
  | n :: ns => by
    show PyData.bulkAll (PyData.int n :: dI ns) = _
    simp only [PyData.bulkAll, PyData.bulk, bulk_dI ns, List.length_cons]
    omega
theorem sx_ints {m t : Nat} {ns : List Int} (h : ∀ k ∈ ns, k.natAbs ≤ m) : SxA 0 ns.length m t (dI ns) := by
  refine ⟨fun D hD => ?_, by rw [bulk_dI]; exact Nat.le_refl _, fun D hD => ?_⟩
  · obtain ⟨k, _, rfl⟩ := List.mem_map.mp hD
    simp [PyData.depth]
  · obtain ⟨k, hk, rfl⟩ := List.mem_map.mp hD
    simp only [fitD]
    exact decide_eq_true (h k hk)
theorem sx_joins {m t : Nat} : ∀ {nss : List (List Int)}, (∀ ns ∈ nss, ns.length ≤ 3 ∧ ∀ k ∈ ns, k.natAbs ≤ m) → SxA 1 (4 * nss.length) m t (nss.map tupD)
  | [], _ => .nil
  | ns :: r, h => by
    obtain ⟨h1, h2⟩ := h ns List.mem_cons_self
    have ih := sx_joins (t := t) (nss := r) fun x hx => h x (List.mem_cons_of_mem _ hx)
    have one : SxA 1 (3 + 1) m t [tupD ns] := .one ((sx_ints h2).tuple.mono (Nat.le_refl _) h1 (Nat.le_refl _) (Nat.le_refl _))
    have z := one.app ih
    refine z.mono (Nat.le_refl _) ?_ (Nat.le_refl _) (Nat.le_refl _)
    rw [List.length_cons]
    omega
theorem JI.dy {d l : Addr} {t : Int} {ws : List Int} {H : Hp} {x : V} {m z : Nat} (h : JI K t ws H x) (l7 : ws.length ≤ 7) (hm : 14 ≤ m) : ∃ nss : List (List Int), Dy K d l H x (.tuple (nss.map tupD)) ∧ Sx 2 28 m z (.tuple (nss.map tupD)) ∧ GoodJ t ws nss := by
  obtain ⟨p, xs, nss, rfl, h1, h2, g⟩ := h
  refine ⟨nss, .tup h1 h2.dy, ?_, g⟩
  have z := sx_joins (m := m) (t := z) (nss := nss) fun ns hns => by
    obtain ⟨a, b⟩ := g.each ns hns
    refine ⟨a, fun k hk => ?_⟩
    have := b k hk
    omega
  have := g.few
  exact z.tuple.mono (by omega) (by omega) (Nat.le_refl _) (Nat.le_refl _)
end
end SG

namespace SG
open PySem PySem.Spec PyProof.Rows L2
section
variable {P : Program} {w : World} {K : PySem.W.Frag} {mg : Str → Option Value} {base : Heap}
def spRight (K : PySem.W.Frag) : Sp := fun vs H Q _ => ∃ (d l : Addr) (c : Nat) (t : Int) (pw : Addr) (ws : List Int), vs = [.ref d, .int t, .ref pw] ∧ Dek H d l c ∧ c < 800000 ∧ (t = 2 ∨ t = 3) ∧ SqT K H pw (ws.map V.int) ∧ 1 ≤ ws.length ∧ ws.length ≤ 7 ∧
  ∀ H2, Dek H2 d l (c + 200) → Kept d l H H2 → Q (.bl true) H2
theorem ok_right {f : Addr} {fd : FuncData} (hdg : base.NoDigits) (F : Fun K "_law_right" "_law_right" s__law_right f fd) {f1 : Addr} {fd1 : FuncData} {f2 : Addr} {fd2 : FuncData} {f3 : Addr} {fd3 : FuncData} {f4 : Addr} {fd4 : FuncData} {f5 : Addr} {fd5 : FuncData} {f6 : Addr} {fd6 : FuncData}
    (G__law_drawn_joins : GFn P w K mg base CX0 3 f1 fd1 ["_law_deck_here", "_law_letters", "_law_weights_here"] (spDrawn K)) (F__law_drawn_joins : Fun K "_law_drawn_joins" "_law_drawn_joins" s__law_drawn_joins f1 fd1) (m__law_drawn_joins : mg "_law_drawn_joins" = some (.ref f1)) (b__law_drawn_joins : Binds K fd1 ["_law_deck_here", "_law_letters", "_law_weights_here"] [])
    (G_joins_for : GFn P w K mg base CX0 2 f2 fd2 ["letters", "weights"] (spJoins K)) (F_joins_for : Fun K "joins_for" "joins_for" s_joins_for f2 fd2) (m_joins_for : mg "joins_for" = some (.ref f2)) (b_joins_for : Binds K fd2 ["letters", "weights"] [])
    (G__law_are_joins : GFn P w K mg base CX0 1 f3 fd3 ["_law_letters", "_law_weights_here", "_law_thing"] (spHold K)) (F__law_are_joins : Fun K "_law_are_joins" "_law_are_joins" s__law_are_joins f3 fd3) (m__law_are_joins : mg "_law_are_joins" = some (.ref f3)) (b__law_are_joins : Binds K fd3 ["_law_letters", "_law_weights_here", "_law_thing"] [])
    (G__law_bent : GFn P w K mg base CX0 8 f4 fd4 ["_law_deck_here", "_law_it"] (spBent K 4)) (F__law_bent : Fun K "_law_bent" "_law_bent" s__law_bent f4 fd4) (m__law_bent : mg "_law_bent" = some (.ref f4)) (b__law_bent : Binds K fd4 ["_law_deck_here", "_law_it"] [])
    (G__law_pick : GFn P w K mg base CX0 2 f5 fd5 ["_law_deck_here", "_law_some"] (spPick K)) (F__law_pick : Fun K "_law_pick" "_law_pick" s__law_pick f5 fd5) (m__law_pick : mg "_law_pick" = some (.ref f5)) (b__law_pick : Binds K fd5 ["_law_deck_here", "_law_some"] [])
    (G_joins_hold : GFn P w K mg base CX0 4 f6 fd6 ["letters", "weights", "thing"] (spHold K)) (F_joins_hold : Fun K "joins_hold" "joins_hold" s_joins_hold f6 fd6) (m_joins_hold : mg "joins_hold" = some (.ref f6)) (b_joins_hold : Binds K fd6 ["letters", "weights", "thing"] [])
    (kb_joins_hold_thing_weights_letters : KBinds K fd6 ["letters", "weights", "thing"] ["thing", "weights", "letters"] kwThree kwThree) (T : Txt mg) : GFn P w K mg base CX0 9 f fd ["_law_deck_here", "_law_letters", "_law_weights_here"] (spRight K) := by
  refine gfun_ok F sc__law_right (fun vs H Q E h => ?_) (fun cdv A outer s H vs Q E hgu hr h => ?_)
  · obtain ⟨d, l, c, t, pw, ws, rfl, _⟩ := h
    rfl
  · obtain ⟨d, l, c, t, pw, ws, rfl, Dk, hc, ht23, hw, l1, l7, q⟩ := h
    have nd := sc__law_right.nd
    refine ⟨_, (pss_cons (ps_set (i := 3) nd rfl (Or.inl rfl) (pe_op op_cat (pe_lc (own := [("_law_go", 5)]) rfl nd (pi_range1 rfl T.range (pa_cons pe_int pa_nil)) (blkOk_by (N := N__law_right) (sc := defScope s__law_right) (by decide +kernel)) (fun _ _ _ _ _ => (pg_name (i := 5) nd rfl (Or.inl rfl))) (fun _ _ _ _ _ => pts_nil) (fun _ _ _ _ _ => (pe_g G__law_drawn_joins hgu (hr.mono (by decide)) (by rfl) m__law_drawn_joins F__law_drawn_joins.kp b__law_drawn_joins .nil pass0 (pa_cons (pv 0) (pa_cons (pv 1) (pa_cons (pv 2) pa_nil)))))) (pe_lst (pa_cons (pe_g G_joins_for hgu (hr.mono (by decide)) (by rfl) m_joins_for F_joins_for.kp b_joins_for .nil pass0 (pa_cons (pv 1) (pa_cons (pv 2) pa_nil))) pa_nil))))
      (pss_cons (ps_if (pt_cmpR (k_neE (K := K) hr.units) (pe_lc (own := [("_law_it", 7)]) rfl nd (pi_list (pv 3)) (blkOk_by (N := N__law_right) (sc := defScope s__law_right) (by decide +kernel)) (fun _ _ _ _ _ => (pg_name (i := 7) nd rfl (Or.inl rfl))) (fun _ _ _ _ _ => (pts_one (pt_not (pt_val (pe_g G__law_are_joins hgu (hr.mono (by decide)) (by rfl) m__law_are_joins F__law_are_joins.kp b__law_are_joins .nil pass0 (pa_cons (pv 1) (pa_cons (pv 2) (pa_cons (pv 7) pa_nil)))))))) (fun _ _ _ _ _ => (pv 7))) (pe_lst pa_nil) (nomark _)) (pss_one (ps_ret pe_bl)) pss_nil)
      (pss_cons (ps_set (i := 4) nd rfl (Or.inl rfl) (pe_op op_cat (pv 3) (pe_lst (pa_cons (pe_tup pa_nil) (pa_cons pe_non (pa_cons pe_int (pa_cons pe_str (pa_cons (pe_lst pa_nil) (pa_cons pe_dnewK (pa_cons (pe_tup (pa_cons (pe_tup pa_nil) pa_nil)) (pa_cons (pe_tup (pa_cons (pe_tup (pa_cons pe_int (pa_cons pe_int pa_nil))) pa_nil)) (pa_cons (pe_tup (pa_cons (pe_tup (pa_cons pe_int (pa_cons pe_int (pa_cons pe_int pa_nil)))) pa_nil)) (pa_cons (pe_tup (pa_cons (pe_tup (pa_cons pe_int pa_nil)) pa_nil)) (pa_cons (pe_callTy (k_listOf (K := K)) (by rfl) T.list (by decide +kernel) (pa_cons (pe_ix (k_ixL (K := K)) (pv 3) pe_int (fun _ _ => rfl)) pa_nil)) (pa_cons (pe_slice (k_slU (K := K)) (pe_ix (k_ixL (K := K)) (pv 3) pe_int (fun _ _ => rfl)) (po_some pe_int) po_none) (pa_cons (pe_slice (k_slU (K := K)) (pe_ix (k_ixL (K := K)) (pv 3) pe_int (fun _ _ => rfl)) po_none (po_some (pe_un un_neg pe_int))) pa_nil))))))))))))))))
      (pss_cons (ps_set (i := 4) nd rfl (Or.inl rfl) (pe_op op_cat (pv 4) (pe_lst (pa_cons (pe_revX (K := K) (pe_ix (k_ixL (K := K)) (pv 3) pe_int (fun _ _ => rfl))) (pa_cons (pe_op (k_catU (K := K)) (pe_ix (k_ixL (K := K)) (pv 3) pe_int (fun _ _ => rfl)) (pe_tup (pa_cons (pe_tup (pa_cons pe_int (pa_cons pe_int pa_nil))) pa_nil))) (pa_cons (pe_callTy (k_tupOf (K := K)) (by rfl) T.tuple (by decide +kernel) (pa_cons (pe_lc (own := [("_law_join", 11)]) rfl nd (pi_tup (pe_ix (k_ixL (K := K)) (pv 3) pe_int (fun _ _ => rfl))) (blkOk_by (N := N__law_right) (sc := defScope s__law_right) (by decide +kernel)) (fun _ _ _ _ _ => (pg_name (i := 11) nd rfl (Or.inl rfl))) (fun _ _ _ _ _ => pts_nil) (fun _ _ _ _ _ => (pe_revX (K := K) (pv 11)))) pa_nil)) pa_nil))))))
      (pss_cons (ps_for PassesOwn.never rfl (pi_range1 rfl T.range (pa_cons pe_int pa_nil)) (pg_name (i := 5) nd rfl (Or.inl rfl))
        (pss_cons (ps_set (i := 6) nd rfl (Or.inl rfl) (pe_g G__law_bent hgu (hr.mono (by decide)) (by rfl) m__law_bent F__law_bent.kp b__law_bent .nil pass0 (pa_cons (pv 0) (pa_cons (pe_g G__law_pick hgu (hr.mono (by decide)) (by rfl) m__law_pick F__law_pick.kp b__law_pick .nil pass0 (pa_cons (pv 0) (pa_cons (pv 3) pa_nil))) pa_nil))))
      (pss_one (ps_set (i := 4) nd rfl (Or.inl rfl) (pe_op op_cat (pv 4) (pe_lst (pa_cons (pv 6) (pa_cons (pe_g G__law_bent hgu (hr.mono (by decide)) (by rfl) m__law_bent F__law_bent.kp b__law_bent .nil pass0 (pa_cons (pv 0) (pa_cons (pv 6) pa_nil))) pa_nil))))))))
      (pss_cons (ps_for PassesOwn.never rfl (pi_list (pv 4)) (pg_name (i := 7) nd rfl (Or.inl rfl))
        (pss_cons (ps_par (i := 8) (j := 9) rfl nd rfl rfl (by decide) rfl rfl (pa_cons (pe_callB (k_reprX (K := K) hdg hgu hr) (by rfl) T.repr (by decide +kernel) (pa_cons (pv 7) pa_nil)) (pa_cons (pe_g G__law_are_joins hgu (hr.mono (by decide)) (by rfl) m__law_are_joins F__law_are_joins.kp b__law_are_joins .nil pass0 (pa_cons (pv 1) (pa_cons (pv 2) (pa_cons (pv 7) pa_nil)))) pa_nil)) (by rfl))
      (pss_cons (ps_set (i := 10) nd rfl (Or.inl rfl) (pe_lst (pa_cons (pe_g G_joins_hold hgu (hr.mono (by decide)) (by rfl) m_joins_hold F_joins_hold.kp b_joins_hold .nil pass0 (pa_cons (pv 1) (pa_cons (pv 2) (pa_cons (pv 7) pa_nil)))) (pa_cons (pe_gK0 G_joins_hold hgu (hr.mono (by decide)) (by rfl) m_joins_hold F_joins_hold.kp kb_joins_hold_thing_weights_letters pass0 (pk_cons (pv 7) (pk_cons (pv 2) (pk_cons (pv 1) pk_nil)))) pa_nil))))
      (pss_one (ps_if (PW.pt (pw_or (pt_cmpR op_ne (pe_callB (k_reprX (K := K) hdg hgu hr) (by rfl) T.repr (by decide +kernel) (pa_cons (pv 10) pa_nil)) (pe_callB (k_reprX (K := K) hdg hgu hr) (by rfl) T.repr (by decide +kernel) (pa_cons (pe_lst (pa_cons (pv 9) (pa_cons (pv 9) pa_nil))) pa_nil)) (nomark _)) (pw_or1 (pt_cmpR op_ne (pe_callB (k_reprX (K := K) hdg hgu hr) (by rfl) T.repr (by decide +kernel) (pa_cons (pv 7) pa_nil)) (pv 8) (nomark _))))) (pss_one (ps_ret pe_bl)) pss_nil)))))
      (pss_one (ps_ret pe_bl)))))))), ?_⟩
    refine ⟨_, rfl, by decide, by decide, fun D1 nD1 => ?_⟩
    refine lc_drawsN (n := 2) (m := 30) (B := JI K t ws) (fun _ _ _ k h => h.tups k) (fun _ _ _ _ dk k h => h.kept dk k) Dk nD1 (by decide) (fun i H2 hi dk2 k2 R hR => ?_) (fun xs H2 hl hB hD2 dk2 k2 => ?_)
    · exact ⟨_, rfl, _, rfl, _, rfl, d, l, c + 30 * i, t, pw, ws, rfl, dk2, by omega, ht23, k2.tupG Dk hw, l1, l7, fun p xs nss H3 h3 jn g dk3 k3 => hR _ _ ⟨p, xs, nss, rfl, h3, jn, g⟩ dk3 k3⟩
    refine ⟨_, rfl, _, rfl, t, pw, ws, rfl, ht23, k2.tupG Dk hw, l1, by omega, fun pj xj nss H3 s3 hj jn g => ⟨by show 1 ≤ sizeLine; decide, fun pl npl => ?_⟩⟩
    have s4 : Same H3 (upd H3 pl (.lst [.ref pj])) := same_new npl
    have hl4 : upd H3 pl (.lst [.ref pj]) pl = some (.lst [.ref pj]) := upd_same
    have hD4 := s4 _ _ (s3 _ _ hD2)
    have B4 : ∀ x ∈ xs ++ [V.ref pj], JI K t ws (upd H3 pl (.lst [.ref pj])) x := fun x hx => by
      rcases List.mem_append.mp hx with h | h
      · exact (hB x h).tups (.of (s3.trans s4))
      · rw [List.mem_singleton.mp h]
        exact JI.tups (.of s4) ⟨pj, xj, nss, rfl, hj, jn, g⟩
    have dk4 := dk2.same (s3.trans s4)
    have k4 := k2.trans (.of (s3.trans s4))
    generalize upd H3 pl (.lst [.ref pj]) = H4 at hl4 hD4 B4 dk4 k4 ⊢
    refine ⟨D1, pl, _, _, rfl, rfl, hD4, hl4, Nat.le_of_lt (small1000 (by show xs.length + 1 ≤ 1000; omega)), fun ps nps => ?_⟩
    have s5 : Same H4 (upd H4 ps (.lst (xs ++ [.ref pj]))) := same_new nps
    have psd := dk4.ne nps
    have hps5 : upd H4 ps (.lst (xs ++ [.ref pj])) ps = some (.lst (xs ++ [.ref pj])) := upd_same
    have B5 : ∀ x ∈ xs ++ [V.ref pj], JI K t ws (upd H4 ps (.lst (xs ++ [.ref pj]))) x := fun x hx => (B4 x hx).tups (.of s5)
    have dk5 := dk4.same s5
    have k5 := k4.trans (.of s5)
    generalize hL : xs ++ [V.ref pj] = L at hps5 B5 dk5 k5 ⊢
    have lL : L.length = 3 := by rw [← hL, List.length_append, hl]; rfl
    generalize upd H4 ps (.lst L) = H5 at hps5 B5 dk5 k5 ⊢
    clear B4 hB hL
    have hw5 := k5.tupG Dk hw
    -- what was drawn holds
    refine ⟨_, rfl, ps, rfl, ⟨_, SqL.of hps5⟩, fun D6 nD6 => ?_⟩
    refine lc_empty (walk_list (K := K) (a := ps) (xs := L)) (by omega) nD6 (fun H6 s6 => s6.seq (SqL.of hps5)) (fun x H6 hx s6 R hR => ?_) (fun H6 s6 hD6 => ?_)
    · obtain ⟨nss, hy, sx, g⟩ := ((B5 x hx).tups (.of s6)).dy (d := d) (l := l) (m := 100) (z := 100) l7 (by decide)
      refine ⟨_, rfl, _, rfl, _, rfl, t, pw, ws, x, _, rfl, by omega, by omega, sameT s6 hw5, by omega, dy_dx hy, Nat.le_trans sx.bulk (by decide), fun H7 s7 => ⟨_, rfl, ?_⟩⟩
      rw [g.hold]
      exact hR _ s7
    refine ⟨Nat.zero_le _, fun pz npz => ?_⟩
    have sz : Same H6 (upd H6 pz (.lst [])) := same_new npz
    refine ⟨D6, pz, _, rfl, rfl, .inr ⟨SqL.of (sz _ _ hD6), SqL.of upd_same⟩, _, rfl, ifF (by rfl) ?_⟩
    have s7 := s6.trans sz
    have hps7 := s7 _ _ hps5
    have B7 : ∀ x ∈ L, JI K t ws (upd H6 pz (.lst [])) x := fun x hx => (B5 x hx).tups (.of s7)
    have dk7 := dk5.same s7
    have k7 := k5.trans (.of s7)
    generalize upd H6 pz (.lst []) = H7 at hps7 B7 dk7 k7 ⊢
    clear s7 B5
    obtain ⟨x0, hx0⟩ : ∃ x0, L[0]? = some x0 := ⟨L[0], by rw [List.getElem?_eq_getElem]⟩
    have J0 := B7 x0 (List.mem_of_getElem? hx0)
    obtain ⟨nss0, hy0, sx0, g0⟩ := J0.dy (d := d) (l := l) (m := 10 ^ 39) (z := 100) l7 (by decide +kernel)
    have n7 := g0.few
    have itm0 : ∀ H8 : Hp, (∀ x ∈ L, JI K t ws H8 x) → ∀ x ∈ L, Itm K d l 2 28 (10 ^ 39) 100 H8 x := fun H8 B8 x hx => by
      obtain ⟨nss, hy, sx, g⟩ := (B8 x hx).dy (d := d) (l := l) (m := 10 ^ 39) (z := 100) l7 (by decide +kernel)
      exact ⟨_, hy, sx⟩
    have big : 10 ^ 39 ≤ 10 ^ 39 + 2 := by omega
    have up : ∀ {H8 : Hp} {x : V}, Itm K d l 2 28 (10 ^ 39) 100 H8 x → Itm K d l 4 720 (10 ^ 39 + 2) 700 H8 x := fun h => h.mono (by decide) (by decide) big (by decide)
    have v0 : ∀ (σ : L2.St) (H8 : Hp), Same H7 H8 → σ[3]? = some (some (.ref ps)) → WdE K d l (c + 30 * 2) σ H8 (tOp (rIxL K) (tVar 3) (tC (V.int 0))) (.tuple (nss0.map tupD)) := fun σ H8 s8 e H9 R s9 dk9 r =>
      ⟨_, e, ps, L, 0, x0, rfl, rfl, SqL.of (s9 _ _ (s8 _ _ hps7)), atI_nat hx0, r x0 H9 (Same.refl _) dk9 (dy_same (s8.trans s9) hy0)⟩
    have l700 : (nss0.map tupD).length ≤ 7 := by rw [List.length_map]; omega
    have cl : ∀ o1 o2, (cutD (nss0.map tupD) o1 o2).length ≤ (nss0.map tupD).length := fun o1 o2 => by unfold cutD; rw [List.length_take, List.length_drop]; omega
    obtain ⟨_, sa0⟩ := sx0.items
    have upS : ∀ {n b m z : Nat} {D : PyData}, Sx n b m z D → n ≤ 4 → b ≤ 720 → m ≤ 10 ^ 39 + 2 → z ≤ 700 → Sx 4 720 (10 ^ 39 + 2) 700 D := fun h h1 h2 h3 h4 => h.mono h1 h2 h3 h4
    have i2 : ∀ ns : List Int, (∀ k ∈ ns, 0 ≤ k ∧ k < 3) → ns.length ≤ 3 → Sx 2 4 2 0 (.tuple [tupD ns]) := fun ns h h1 => (SxA.one ((sx_ints (m := 2) (t := 0) (ns := ns) fun k hk => by have := h k hk; omega).tuple.mono (Nat.le_refl _) h1 (Nat.le_refl _) (Nat.le_refl _))).tuple
    refine cat_wx (i := 3) (j := 4) (N := 13) (n := 4) (b := 720) (m := 10 ^ 39 + 2) (t := 700) (l := l) (d := d) (c := c + 30 * 2) rfl hps7 (fun x hx => up (itm0 H7 B7 x hx)) ?_ dk7 (by omega) (fun pv ys H8 s8 dk8 pvd pvl npv hpv iv lv => ?_)
    · refine .cons ((WdE.tup .nil (by decide)).to (SxA.tuple .nil)) (.cons (WdE.non.to Sx.none) (.cons (WdE.int.to (Sx.int (by simp))) (.cons (WdE.str.to (Sx.str (asc_lit _ (by decide +kernel)) (by decide +kernel) (by decide +kernel))) (.cons ((WdE.lst .nil (by decide)).to (SxA.list .nil)) (.cons (WdE.dct.to (Sx.dict0 (by decide)))
        (.cons ((WdE.tup (.cons (.tup .nil (by decide)) .nil) (by decide)).to (upS (i2 [] (fun _ h => (nomatch h)) (by decide)) (by decide) (by decide) (by decide +kernel) (by decide)))
        (.cons ((WdE.tup (.cons (.tup (.cons .int (.cons .int .nil)) (by decide)) .nil) (by decide)).to (upS (i2 [0, 1] (by decide) (by decide)) (by decide) (by decide) (by decide +kernel) (by decide)))
        (.cons ((WdE.tup (.cons (.tup (.cons .int (.cons .int (.cons .int .nil))) (by decide)) .nil) (by decide)).to (upS (i2 [0, 1, 2] (by decide) (by decide)) (by decide) (by decide) (by decide +kernel) (by decide)))
        (.cons ((WdE.tup (.cons (.tup (.cons .int .nil) (by decide)) .nil) (by decide)).to (upS (i2 [0] (by decide) (by decide)) (by decide) (by decide) (by decide +kernel) (by decide)))
        (.cons ((v0 _ H7 (Same.refl _) rfl).listOf.to (upS sa0.list (by decide) (by decide) big (by decide)))
        (.cons (((v0 _ H7 (Same.refl _) rfl).slc .int .no).to (upS (sa0.cutD _ _).tuple (by decide) (by decide) big (by decide)))
        (.cons (((v0 _ H7 (Same.refl _) rfl).slc .no .neg).to (upS (sa0.cutD _ _).tuple (by decide) (by decide) big (by decide))) .nil))))))))))))
    refine cat_wx (i := 4) (j := 4) (N := 3) (n := 4) (b := 720) (m := 10 ^ 39 + 2) (t := 700) (l := l) (d := d) (c := c + 30 * 2) rfl hpv iv ?_ dk8 (by omega) (fun pv2 ys2 H9 s9 dk9 pvd2 pvl2 npv2 hpv2 iv2 lv2 => ?_)
    · refine .cons ((v0 _ H8 s8 rfl).rev.to (upS sa0.rev.tuple (by decide) (by decide) big (by decide))) (.cons (((v0 _ H8 s8 rfl).cat (.tup (.cons (.tup (.cons .int (.cons .int .nil)) (by decide)) .nil) (by decide)) (by simp only [List.length_singleton]; omega)).to ?_) (.cons ?_ .nil))
      · obtain ⟨_, si⟩ := (i2 [0, 1] (by decide) (by decide)).items
        exact upS ((sa0.app (si.mono (Nat.le_refl _) (Nat.le_refl _) (Nat.le_trans (show 2 ≤ 10 by decide) (by decide +kernel)) (show 0 ≤ 100 by decide))).tuple) (by decide) (by decide) big (by decide)
      · intro H10 R s10 dk10 r
        obtain ⟨p0, xs0, nss1, rfl, h1, h2, g1⟩ := J0
        have s710 := s8.trans s10
        have n71 := g1.few
        have jl := h2.len
        refine ⟨_, rfl, ps, L, 0, _, rfl, rfl, SqL.of (s710 _ _ hps7), atI_nat hx0, p0, rfl, ⟨_, sameT s710 h1⟩, fun D11 nD11 => ?_⟩
        refine lc_revs (sameT s710 h1) (h2.keep fun a ys h => sameT s710 h) (by omega) (by rw [List.length_set]; show 11 < 12; decide) nD11 (fun acc H11 s11 hD11 jn11 => ?_)
        refine ⟨D11, acc, rfl, .inl ⟨SqL.of hD11, fun pr npr => r (.ref pr) _ (s11.trans (same_new npr)) ((dk10.same s11).upd npr) ⟨.tuple ((nss1.map List.reverse).map tupD), .tup (.inl (.inl upd_same)) (jn11.keep fun a ys h => sameT (same_new npr) h).dy, ?_⟩⟩⟩
        have z := sx_joins (m := 100) (t := 0) (nss := nss1.map List.reverse) fun ns hns => by
          obtain ⟨ms, hms, rfl⟩ := List.mem_map.mp hns
          obtain ⟨a, b⟩ := g1.each ms hms
          rw [List.length_reverse]
          refine ⟨a, fun k hk => ?_⟩
          have := b k (List.mem_reverse.mp hk)
          omega
        rw [List.length_map] at z
        exact upS z.tuple (by decide) (by omega) (by decide +kernel) (by decide)
    have BJ : ∀ H8 : Hp, Same H7 H8 → ∀ x ∈ L, JI K t ws H8 x := fun H8 s x hx => (B7 x hx).tups (.of s)
    refine ⟨_, rfl, by decide, by decide, ?_⟩
    refine for_it walk_range (fun i σ HI => ∃ (pv : Addr) (ys : List V) (y5 y6 y7 y8 y9 y10 y11 : Option V), σ = [some (.ref d), some (.int t), some (.ref pw), some (.ref ps), some (.ref pv), y5, y6, y7, y8, y9, y10, y11] ∧ Dek HI d l (c + 60 + 15 * i) ∧ Kept d l H HI ∧ HI ps = some (.lst L) ∧ (∀ x ∈ L, JI K t ws HI x) ∧
      HI pv = some (.lst ys) ∧ pv ≠ d ∧ pv ≠ l ∧ (∀ y ∈ ys, Itm K d l 4 720 (10 ^ 39 + 2) 700 HI y) ∧ ys.length = 19 + 2 * i)
      ⟨pv2, ys2, _, _, _, _, _, _, _, rfl, dk9, k7.trans (.of (s8.trans s9)), s9 _ _ (s8 _ _ hps7), BJ _ (s8.trans s9), hpv2, pvd2, pvl2, iv2, by omega⟩ (fun _ _ _ _ _ => trivial) ?_ ?_
    · rintro i x σ HI HJ hi ⟨pv, ys, y5, y6, y7, y8, y9, y10, y11, rfl, dk, k, hps, BI, hpv, pvd, pvl, iv, lv⟩ ⟨rfl, rfl⟩
      have hi : i < 7 := hi
      refine ⟨_, rfl, _, rfl, _, rfl, d, l, c + 60 + 15 * i, ps, L, rfl, dk, by omega, SqL.of hps, psd.2, (by intro z; rw [z] at lL; cases lL), by omega, fun x H2 hx dk2 k2 => ?_⟩
      refine ⟨d, l, _, x, 2, 28, 10 ^ 39, 100, rfl, dk2, by decide, by omega, (itm0 HJ BI x hx).kept dk k2, Nat.le_refl _, by decide +kernel, by decide, fun y H3 iy dk3 k3 => ?_⟩
      refine ⟨_, rfl, _, rfl, _, rfl, _, rfl, d, l, _, y, 3, 256, 10 ^ 39 + 1, 300, rfl, dk3, by decide, by omega, iy, by omega, by decide +kernel, by decide, fun z H4 iz dk4 k4 => ⟨by show 2 ≤ sizeLine; decide, fun pn npn => ?_⟩⟩
      have k34 := k2.trans (k3.trans k4)
      have s5 : Same H4 (upd H4 pn (.lst [y, z])) := same_new npn
      have hpv4 : upd H4 pn (.lst [y, z]) pv = some (.lst ys) := s5 _ _ (k34 _ _ hpv pvd pvl)
      refine ⟨pv, pn, ys, [y, z], rfl, rfl, hpv4, upd_same, Nat.le_of_lt (small1000 (by show ys.length + 2 ≤ 1000; omega)), fun p2 np2 => ?_⟩
      have s6 := s5.trans (same_new (o := .lst (ys ++ [y, z])) np2)
      have k06 := k34.trans (.of s6)
      have dk6 := dk4.same s6
      refine ⟨p2, ys ++ [y, z], _, _, _, _, _, _, _, rfl, dk6.mono (by omega), k.trans k06, k06 _ _ hps psd.1 psd.2, fun x hx => (BI x hx).kept dk k06, upd_same, ((dk4.same s5).ne np2).1, ((dk4.same s5).ne np2).2, fun v hv => ?_, by rw [List.length_append, lv]; show 19 + 2 * i + 2 = _; omega⟩
      rcases List.mem_append.mp hv with hv | hv
      · exact (iv v hv).kept dk k06
      · rcases List.mem_cons.mp hv with rfl | hv
        · exact ((iy.kept dk3 k4).same s6).mono (by decide) (by decide) (by omega) (by decide)
        · rw [List.mem_singleton.mp hv]
          exact (iz.same s6).mono (by decide) (by decide) (by omega) (by decide)
    · rintro σ HI ⟨pv, ys, y5, y6, y7, y8, y9, y10, y11, rfl, dk, k, hps, BI, hpv, pvd, pvl, iv, lv⟩
      refine ⟨_, rfl, pv, rfl, ⟨_, SqL.of hpv⟩, for_it (walk_list (K := K) (a := pv) (xs := ys)) (fun i σ HK => ∃ (z7 z8 z9 z10 : Option V), σ = [some (.ref d), some (.int t), some (.ref pw), some (.ref ps), some (.ref pv), y5, y6, z7, z8, z9, z10, y11] ∧ Same HI HK) ⟨_, _, _, _, rfl, Same.refl _⟩ (fun i σ HK _ ⟨_, _, _, _, _, s⟩ => s.seq (SqL.of hpv)) ?_ ?_⟩
      · rintro i x σ HK HL hi ⟨z7, z8, z9, z10, rfl, sK⟩ ⟨rfl, hx⟩
        obtain ⟨D, hy, sx⟩ := (iv x (List.mem_of_getElem? hx)).same sK
        have hd := dy_dx hy
        have hwK : SqT K HL pw (ws.map V.int) := sameT sK (k.tupG Dk hw)
        have hm : 10 ^ 39 + 2 < 10 ^ 4300 := by decide +kernel
        have tl := (fit_told hm D sx.fit).1
        have dp : D.depth ≤ 60 := Nat.le_trans sx.dep (by decide)
        have sh := sx.short (by decide) hm
        have bk : D.bulk ≤ 800 := Nat.le_trans sx.bulk (by decide)
        refine ⟨_, rfl, x, D, rfl, hd, tl, dp, sh, _, rfl, _, rfl, _, rfl, t, pw, ws, x, D, rfl, by omega, by omega, hwK, by omega, hd, bk, fun H2 s2 => ⟨_, _, rfl, ?_⟩⟩
        refine ⟨_, rfl, _, rfl, _, rfl, t, pw, ws, x, D, rfl, by omega, by omega, sameT s2 hwK, by omega, dx_same s2 hd, bk, fun H3 s3 => ?_⟩
        have s23 := s2.trans s3
        refine ⟨_, rfl, _, rfl, _, rfl, t, pw, ws, x, D, rfl, by omega, by omega, sameT s23 hwK, by omega, dx_same s23 hd, bk, fun H4 s4 => ⟨by show 2 ≤ sizeLine; decide, fun pt npt => ?_⟩⟩
        have s24 := s23.trans s4
        generalize holdD t ws D = kk
        have s5 : Same H4 (upd H4 pt (.lst [.bl kk, .bl kk])) := same_new npt
        have hpt : upd H4 pt (.lst [.bl kk, .bl kk]) pt = some (.lst [.bl kk, .bl kk]) := upd_same
        have s25 := s24.trans s5
        generalize upd H4 pt (.lst [.bl kk, .bl kk]) = H5 at s5 hpt s25 ⊢
        have sb : Sx 1 2 0 0 (.list [.bool kk, .bool kk]) := ((SxA.one (n := 0) (b := 0) (m := 0) (t := 0) (Sx.bool kk)).app (SxA.one (b := 0) (Sx.bool kk))).list
        have hm0 : 0 < 10 ^ 4300 := by decide +kernel
        have db : ∀ {H : Hp} {p : Addr}, H p = some (.lst [.bl kk, .bl kk]) → Dx K H (.ref p) (.list [.bool kk, .bool kk]) := fun h => .lst (SqL.of h) (.cons (.bl _) (.cons (.bl _) .nil))
        refine ⟨_, rfl, _, _, rfl, db hpt, (fit_told hm0 _ sb.fit).1, Nat.le_trans sb.dep (by decide), sb.short (by decide) hm0, _, rfl, _, rfl, by show 2 ≤ sizeLine; decide, fun p6 np6 => ?_⟩
        refine ⟨_, _, rfl, db upd_same, (fit_told hm0 _ sb.fit).1, Nat.le_trans sb.dep (by decide), sb.short (by decide) hm0, rfl, _, rfl, ifF (by simp) ?_⟩
        have s26 := s25.trans (same_new (o := .lst [.bl kk, .bl kk]) np6)
        refine ⟨_, rfl, x, D, rfl, dx_same s26 hd, tl, dp, sh, _, rfl, rfl, _, rfl, ifF (by simp) ?_⟩
        exact ⟨_, _, _, _, rfl, sK.trans s26⟩
      · rintro σ HK ⟨z7, z8, z9, z10, rfl, sK⟩
        exact q _ ((dk.same sK).mono (by omega)) (k.trans (.of sK))
end
end SG

namespace SG
open PySem PySem.Spec PyProof.Rows L2
section
variable {P : Program} {w : World} {K : PySem.W.Frag} {mg : Str → Option Value} {base : Heap}
theorem asg_wd {d l : Addr} {c : Nat} {σ : L2.St} {H : Hp} {ta : TA} {ds : List PyData} {i : Nat} {ts : TS} {De : Ends} (lit : WdA K d l c σ H ta ds) (dk : Dek H d l c) (hN : ds.length ≤ 1000)
    (q : ∀ (p : Addr) (xs : List V) (H2 : Hp), H2 p = some (.lst xs) → DyAll K d l H2 xs ds → ts De (σ.set i (some (.ref p))) H2) : tSeq (tAsg (tLst ta) (gName i)) ts De σ H :=
  lit H _ (Same.refl H) dk fun xs H1 s1 dk1 hx => ⟨Nat.le_of_lt (small1000 (by rw [dyA_len hx]; exact hN)), fun p np => q p xs _ upd_same (dyA_same (same_new np) hx)⟩
theorem lc_holdAll {b : Addr} {xs : List V} {ds : List PyData} {te : TE} {s : Nat} {σ : L2.St} {H1 : Hp} {D : Addr} {Qd : Hp → Prop} (hS : SqL K H1 b xs) (ha : DxAll K H1 xs ds) (hn : ds.length ≤ 1000) (hb : ∀ E ∈ ds, E.bulk ≤ 800) (hD : H1 D = none)
    (turn : ∀ (x : V) (E : PyData) (H2 : Hp), E.bulk ≤ 800 → Same H1 H2 → Dx K H2 x E → ∀ R : VK, (∀ H3, Same H2 H3 → R (.bl (holdD 2 [2, 1, 1] E)) H3) → te ((wipe σ [s]).set s (some x)) H2 R)
    (done : ∀ (H2 : Hp), Same H1 H2 → H2 D = some (.lst (ds.map fun E => V.bl (holdD 2 [2, 1, 1] E))) → Qd H2) :
    ∃ W : Nat → Nat → Hp → Prop, (∃ m, W 0 m (upd H1 D (.lst []))) ∧ ∀ i m H, W i m H →
      ((Itl K b).stop i H ∧ Qd H) ∨ ((Itl K b).go i H ∧ ∃ Nx : Hp → Prop, (∀ H', Nx H' → ∃ m', m' < m ∧ W (i + 1) m' H') ∧ ∀ x H', (Itl K b).yld i H x H' → gName s x (wipe σ [s]) H' fun σ2 H2 => wipe σ2 [s] = wipe σ [s] ∧ tYes σ2 H2 fun b H3 =>
        if b = true then te σ2 H3 fun y H4 => ∃ acc, H4 D = some (.lst acc) ∧ acc.length < sizeLine ∧ Nx (upd H4 D (.lst (acc ++ [y]))) else Nx H3) := by
  have lx := dxA_len ha
  refine lc_same (walk_list (K := K) (a := b) (xs := xs)) (by omega) hD (fun i acc _ => acc = (ds.take i).map fun E => V.bl (holdD 2 [2, 1, 1] E)) rfl (fun _ _ _ _ _ h => h) (fun H5 s5 => s5.seq hS) ?_ ?_
  · rintro i x acc H5 H6 hi s5 rfl ⟨rfl, hx⟩ R N hR hN
    obtain ⟨E, h1, h2⟩ := dxA_get (dxA_same s5 ha) hx
    refine ⟨wipe1 _ _ _, ?_⟩
    refine yesI (A := fun H7 => _) ?_
    refine turn x E _ (hb E (List.mem_of_getElem? h1)) s5 h2 _ fun H3 s3 => hR _ _ s3 ?_
    rw [List.take_add_one, h1, List.map_append]
    rfl
  · rintro acc H5 s5 hl hD1 rfl
    rw [lx, List.take_of_length_le (Nat.le_refl _)] at hD1
    exact done H5 s5 hD1
def spLaw (K : PySem.W.Frag) : Sp := fun vs H Q _ => ∃ (a : Addr) (ns : List Int), vs = [.ref a] ∧ SqL K H a (ns.map V.int) ∧ ns.length ≤ 63 ∧ ∀ H2, Q (.bl true) H2
theorem ok_law {f f1 f2 f3 f4 f5 : Addr} {fd fd1 fd2 fd3 fd4 fd5 : FuncData} (hdg : base.NoDigits) (F : Fun K "law" "law" s_law f fd)
    (G__law_deck : GFn P w K mg base CX0 1 f1 fd1 ["_law_script"] (spDeck K)) (F__law_deck : Fun K "_law_deck" "_law_deck" s__law_deck f1 fd1) (m__law_deck : mg "_law_deck" = some (.ref f1)) (b__law_deck : Binds K fd1 ["_law_script"] [])
    (G__law_draw : GFn P w K mg base CX0 1 f2 fd2 ["_law_deck_here", "_law_many"] spDraw) (F__law_draw : Fun K "_law_draw" "_law_draw" s__law_draw f2 fd2) (m__law_draw : mg "_law_draw" = some (.ref f2)) (b__law_draw : Binds K fd2 ["_law_deck_here", "_law_many"] [])
    (G__law_weights : GFn P w K mg base CX0 3 f3 fd3 ["_law_deck_here"] (spWeights K)) (F__law_weights : Fun K "_law_weights" "_law_weights" s__law_weights f3 fd3) (m__law_weights : mg "_law_weights" = some (.ref f3)) (b__law_weights : Binds K fd3 ["_law_deck_here"] [])
    (G__law_right : GFn P w K mg base CX0 9 f4 fd4 ["_law_deck_here", "_law_letters", "_law_weights_here"] (spRight K)) (F__law_right : Fun K "_law_right" "_law_right" s__law_right f4 fd4) (m__law_right : mg "_law_right" = some (.ref f4)) (b__law_right : Binds K fd4 ["_law_deck_here", "_law_letters", "_law_weights_here"] [])
    (G_joins_hold : GFn P w K mg base CX0 4 f5 fd5 ["letters", "weights", "thing"] (spHold K)) (F_joins_hold : Fun K "joins_hold" "joins_hold" s_joins_hold f5 fd5) (m_joins_hold : mg "joins_hold" = some (.ref f5)) (b_joins_hold : Binds K fd5 ["letters", "weights", "thing"] [])
    (T : Txt mg) : GFn P w K mg base CX0 10 f fd ["_law_script"] (spLaw K) := by
  refine gfun_ok F sc_law (fun vs H Q E h => ?_) (fun cdv A outer s H vs Q E hgu hr h => ?_)
  · obtain ⟨a, ns, rfl, _⟩ := h
    rfl
  · obtain ⟨a, ns, rfl, hS, hlen, q⟩ := h
    have nd := sc_law.nd
    refine ⟨_, (pss_cons (ps_set (i := 1) nd rfl (Or.inl rfl) (pe_g G__law_deck hgu (hr.mono (by decide)) (by rfl) m__law_deck F__law_deck.kp b__law_deck .nil pass0 (pa_cons (pv 0) pa_nil)))
      (pss_cons (ps_for PassesOwn.never rfl (pi_range1 rfl T.range (pa_cons pe_int pa_nil)) (pg_name (i := 2) nd rfl (Or.inl rfl))
        (pss_one (ps_if (pt_not (pt_val (pe_g G__law_right hgu (hr.mono (by decide)) (by rfl) m__law_right F__law_right.kp b__law_right .nil pass0 (pa_cons (pv 1) (pa_cons (pe_op op_add pe_int (pe_g G__law_draw hgu (hr.mono (by decide)) (by rfl) m__law_draw F__law_draw.kp b__law_draw .nil pass0 (pa_cons (pv 1) (pa_cons pe_int pa_nil)))) (pa_cons (pe_g G__law_weights hgu (hr.mono (by decide)) (by rfl) m__law_weights F__law_weights.kp b__law_weights .nil pass0 (pa_cons (pv 1) pa_nil)) pa_nil)))))) (pss_one (ps_ret pe_bl)) pss_nil)))
      (pss_cons (ps_set (i := 3) nd rfl (Or.inl rfl) (pe_lst (pa_cons (pe_tup (pa_cons (pe_tup (pa_cons pe_int (pa_cons pe_int pa_nil))) (pa_cons (pe_tup (pa_cons pe_int (pa_cons pe_int pa_nil))) pa_nil))) (pa_cons (pe_tup (pa_cons (pe_tup (pa_cons pe_int (pa_cons pe_int pa_nil))) (pa_cons (pe_tup (pa_cons pe_int (pa_cons pe_int pa_nil))) pa_nil))) (pa_cons (pe_tup (pa_cons (pe_tup (pa_cons pe_int (pa_cons pe_int pa_nil))) (pa_cons (pe_tup (pa_cons pe_int (pa_cons pe_int pa_nil))) pa_nil))) pa_nil)))))
      (pss_one (ps_ret (pe_cmpR (k_eqD (K := K) hr.units) (pe_lc (own := [("_law_it", 4)]) rfl nd (pi_list (pv 3)) (blkOk_by (N := N_law) (sc := defScope s_law) (by decide +kernel)) (fun _ _ _ _ _ => (pg_name (i := 4) nd rfl (Or.inl rfl))) (fun _ _ _ _ _ => pts_nil) (fun _ _ _ _ _ => (pe_g G_joins_hold hgu (hr.mono (by decide)) (by rfl) m_joins_hold F_joins_hold.kp b_joins_hold .nil pass0 (pa_cons pe_int (pa_cons (pe_tup (pa_cons pe_int (pa_cons pe_int (pa_cons pe_int pa_nil)))) (pa_cons (pv 4) pa_nil)))))) (pe_lst (pa_cons pe_bl (pa_cons pe_bl (pa_cons pe_bl pa_nil)))) (nomark _))))))), ?_⟩
    refine ⟨_, rfl, a, ns, rfl, hS, hlen, fun d l H1 D1 s1 => ?_⟩
    refine ⟨_, rfl, by decide, by decide, ?_⟩
    refine for_it walk_range (fun i σ HI => ∃ (y2 : Option V), σ = [some (.ref a), some (.ref d), y2, none, none] ∧ Dek HI d l (300 * i)) ⟨_, rfl, D1⟩ (fun _ _ _ _ _ => trivial) ?_ ?_
    · rintro i x σ HI HJ hi ⟨y2, rfl, dk⟩ ⟨rfl, rfl⟩
      have hi : i < 3 := hi
      refine ⟨_, rfl, _, rfl, d, l, 300 * i, 2, rfl, dk, by omega, by decide, by decide, fun r H2 r0 r1 dk2 k2 => ?_⟩
      refine ⟨_, _, rfl, rfl, _, rfl, d, l, _, rfl, dk2, by omega, fun p ws H3 hp l1 l7 hw dk3 k3 => ?_⟩
      refine ⟨d, l, _, 2 + r, p, ws, rfl, dk3, by omega, by omega, hp, l1, l7, fun H4 dk4 k4 => ?_⟩
      exact ⟨_, rfl, ifF (by rfl) ⟨_, rfl, dk4.mono (by omega)⟩⟩
    · rintro σ HI ⟨y2, rfl, dk⟩
      have lit : WdA K d l (300 * 3) [some (.ref a), some (.ref d), y2, none, none] HI (tCons (tTup (tCons (tTup (tCons (tC (V.int 0)) (tCons (tC (V.int 1)) tNil))) (tCons (tTup (tCons (tC (V.int 2)) (tCons (tC (V.int 3)) tNil))) tNil)))
          (tCons (tTup (tCons (tTup (tCons (tC (V.int 1)) (tCons (tC (V.int 2)) tNil))) (tCons (tTup (tCons (tC (V.int 0)) (tCons (tC (V.int 3)) tNil))) tNil)))
          (tCons (tTup (tCons (tTup (tCons (tC (V.int 0)) (tCons (tC (V.int 2)) tNil))) (tCons (tTup (tCons (tC (V.int 1)) (tCons (tC (V.int 3)) tNil))) tNil))) tNil))) [.tuple [tupD [0, 1], tupD [2, 3]], .tuple [tupD [1, 2], tupD [0, 3]], .tuple [tupD [0, 2], tupD [1, 3]]] := by
        have pr : ∀ i j : Int, WdE K d l (300 * 3) [some (.ref a), some (.ref d), y2, none, none] HI (tTup (tCons (tC (V.int i)) (tCons (tC (V.int j)) tNil))) (tupD [i, j]) := fun i j => .tup (.cons .int (.cons .int .nil)) (by show 2 ≤ 1000; decide)
        have two : ∀ {t1 t2 : TE} {A B : PyData}, WdE K d l (300 * 3) [some (.ref a), some (.ref d), y2, none, none] HI t1 A → WdE K d l (300 * 3) [some (.ref a), some (.ref d), y2, none, none] HI t2 B → WdE K d l (300 * 3) [some (.ref a), some (.ref d), y2, none, none] HI (tTup (tCons t1 (tCons t2 tNil))) (.tuple [A, B]) := fun h1 h2 => .tup (.cons h1 (.cons h2 .nil)) (by show 2 ≤ 1000; decide)
        exact .cons (two (pr _ _) (pr _ _)) (.cons (two (pr _ _) (pr _ _)) (.cons (two (pr _ _) (pr _ _)) .nil))
      refine asg_wd lit dk (by show 3 ≤ 1000; decide) fun pl xs H3 h3 hx => ?_
      have hx3 := dyA_dx hx
      refine ⟨_, rfl, pl, rfl, ⟨_, SqL.of h3⟩, fun D4 nD4 => ?_⟩
      refine lc_holdAll (b := pl) (s := 4) (SqL.of h3) hx3 (by decide) ?_ nD4 (fun x E H4 hE s4 h4 R hR => ?_) (fun H4 s4 hD4 => ?_)
      · intro E hE
        rcases List.mem_cons.mp hE with rfl | hE
        · decide +kernel
        · rcases List.mem_cons.mp hE with rfl | hE
          · decide +kernel
          · rw [List.mem_singleton.mp hE]
            decide +kernel
      · refine ⟨by show 3 ≤ sizeLine; decide, fun pw npw => ⟨_, rfl, 2, pw, [2, 1, 1], x, E, rfl, by decide, by decide, .inl (.inl upd_same), by decide, dx_same (same_new npw) h4, hE, fun H5 s5 => ?_⟩⟩
        exact hR _ ((same_new npw).trans s5)
      · refine ⟨by show 3 ≤ sizeLine; decide, fun pz npz => ?_⟩
        have s5 : Same H4 (upd H4 pz (.lst [.bl false, .bl true, .bl false])) := same_new npz
        have e : ([.tuple [tupD [0, 1], tupD [2, 3]], .tuple [tupD [1, 2], tupD [0, 3]], .tuple [tupD [0, 2], tupD [1, 3]]] : List PyData).map (fun D => V.bl (holdD 2 [2, 1, 1] D)) = [.bl false, .bl true, .bl false] := by
          have e1 : holdD 2 [2, 1, 1] (.tuple [tupD [0, 1], tupD [2, 3]]) = false := by decide +kernel
          have e2 : holdD 2 [2, 1, 1] (.tuple [tupD [1, 2], tupD [0, 3]]) = true := by decide +kernel
          have e3 : holdD 2 [2, 1, 1] (.tuple [tupD [0, 2], tupD [1, 3]]) = false := by decide +kernel
          rw [List.map_cons, List.map_cons, List.map_cons, e1, e2, e3]
          rfl
        rw [e] at hD4
        have sh : SeqAt.shaped (.list [.bool false, .bool true, .bool false]) = true := by simp [SeqAt.shaped, PyData.canLay0, PyData.canLayAll0, PyData.depth, PyData.depthAll]
        have dd : ∀ {H : Hp} {p : Addr}, H p = some (.lst [.bl false, .bl true, .bl false]) → Dp K H (.ref p) (.list [.bool false, .bool true, .bool false]) := fun h => .lst (SqL.of h) (.cons (.bl _) (.cons (.bl _) (.cons (.bl _) .nil)))
        have ev : PyData.eqv (.list [.bool false, .bool true, .bool false]) (.list [.bool false, .bool true, .bool false]) = true := by simp [PyData.eqv, PyData.eqvAll]
        refine ⟨_, _, dd (s5 _ _ hD4), dd upd_same, sh, sh, ?_⟩
        rw [ev]
        exact q _
end
end SG

namespace SG
open PySem PySem.Spec PyProof.Rows L2
theorem kwOne_args {α : Type} {us ws : List α} (h : (kwOne us ws).length = 1) : ∃ x, us = [] ∧ ws = [x] := by
  match us, ws, h with
  | [], [x], _ => exact ⟨x, rfl, rfl⟩
  | [], [], h => exact absurd h (by simp [kwOne])
  | [], _ :: _ :: _, h => exact absurd h (by simp [kwOne])
  | _ :: _, _, h => exact absurd h (by simp [kwOne])
theorem kwTurn_args {α : Type} {us ws : List α} (h : (kwTurn us ws).length = 2) : ∃ x y, us = [] ∧ ws = [x, y] := by
  match us, ws, h with
  | [], [x, y], _ => exact ⟨x, y, rfl, rfl⟩
  | [], [], h => exact absurd h (by simp [kwTurn])
  | [], [_], h => exact absurd h (by simp [kwTurn])
  | [], _ :: _ :: _ :: _, h => exact absurd h (by simp [kwTurn])
  | _ :: _, _, h => exact absurd h (by simp [kwTurn])
theorem all_mk {l : PySem.W.OpenLaw} {w : World} {K : PySem.W.Frag} {h : Heap} {mg : Str → Option Value} {fa f_is_integer f_is_below f_is_ascending f_joined_at_first f_joins_for f_joins_hold f_is_join f_can_be_joined f__law_deck f__law_draw f__law_pick f__law_odd f__law_bent f__law_weights f__law_drawn_joins f__law_are_joins f__law_right f_law : Addr} (X : K.In h) (G : h.Ns mainGlobals mg) (hfa : mg "law" = some (.ref fa))
    {od_is_integer an_is_integer od_is_below an_is_below od_is_ascending an_is_ascending od_joined_at_first an_joined_at_first od_joins_for an_joins_for od_joins_hold an_joins_hold od_is_join an_is_join od_can_be_joined an_can_be_joined od__law_deck an__law_deck od__law_draw an__law_draw od__law_pick an__law_pick od__law_odd an__law_odd od__law_bent an__law_bent od__law_weights an__law_weights od__law_drawn_joins an__law_drawn_joins od__law_are_joins an__law_are_joins od__law_right an__law_right od_law an_law : Option Addr} {sl_is_integer sl_is_below sl_is_ascending sl_joined_at_first sl_joins_for sl_joins_hold sl_is_join sl_can_be_joined sl__law_deck sl__law_draw sl__law_pick sl__law_odd sl__law_bent sl__law_weights sl__law_drawn_joins sl__law_are_joins sl__law_right sl_law : Array (Option Value)} {oc_is_integer kV_is_integer dc_is_integer pm_is_integer cd_is_integer ct_is_integer oc_is_below kV_is_below dc_is_below pm_is_below cd_is_below ct_is_below oc_is_ascending kV_is_ascending dc_is_ascending pm_is_ascending cd_is_ascending ct_is_ascending oc_joined_at_first kV_joined_at_first dc_joined_at_first pm_joined_at_first cd_joined_at_first ct_joined_at_first oc_joins_for kV_joins_for dc_joins_for pm_joins_for cd_joins_for ct_joins_for oc_joins_hold kV_joins_hold dc_joins_hold pm_joins_hold cd_joins_hold ct_joins_hold oc_is_join kV_is_join dc_is_join pm_is_join cd_is_join ct_is_join oc_can_be_joined kV_can_be_joined dc_can_be_joined pm_can_be_joined cd_can_be_joined ct_can_be_joined oc__law_deck kV__law_deck dc__law_deck pm__law_deck cd__law_deck ct__law_deck oc__law_draw kV__law_draw dc__law_draw pm__law_draw cd__law_draw ct__law_draw oc__law_pick kV__law_pick dc__law_pick pm__law_pick cd__law_pick ct__law_pick oc__law_odd kV__law_odd dc__law_odd pm__law_odd cd__law_odd ct__law_odd oc__law_bent kV__law_bent dc__law_bent pm__law_bent cd__law_bent ct__law_bent oc__law_weights kV__law_weights dc__law_weights pm__law_weights cd__law_weights ct__law_weights oc__law_drawn_joins kV__law_drawn_joins dc__law_drawn_joins pm__law_drawn_joins cd__law_drawn_joins ct__law_drawn_joins oc__law_are_joins kV__law_are_joins dc__law_are_joins pm__law_are_joins cd__law_are_joins ct__law_are_joins oc__law_right kV__law_right dc__law_right pm__law_right cd__law_right ct__law_right oc_law kV_law dc_law pm_law cd_law ct_law : Value}
    (a_is_integer : PySem.W.nsIn K mainGlobals "is_integer" = some (some (.ref f_is_integer))) (l_is_integer : K.lookup f_is_integer = some ⟨oc_is_integer, od_is_integer, .func (PySem.W.fnOf "is_integer" "is_integer" (defArgs s_is_integer) (defBody s_is_integer) (defScope s_is_integer) .none kV_is_integer dc_is_integer pm_is_integer an_is_integer cd_is_integer ct_is_integer), sl_is_integer⟩) (c_is_integer : PySem.W.codeIn K cd_is_integer "is_integer" = true) (k_is_integer : PySem.W.keepIn K (.ref f_is_integer) = true)
    (a_is_below : PySem.W.nsIn K mainGlobals "is_below" = some (some (.ref f_is_below))) (l_is_below : K.lookup f_is_below = some ⟨oc_is_below, od_is_below, .func (PySem.W.fnOf "is_below" "is_below" (defArgs s_is_below) (defBody s_is_below) (defScope s_is_below) .none kV_is_below dc_is_below pm_is_below an_is_below cd_is_below ct_is_below), sl_is_below⟩) (c_is_below : PySem.W.codeIn K cd_is_below "is_below" = true) (k_is_below : PySem.W.keepIn K (.ref f_is_below) = true)
    (a_is_ascending : PySem.W.nsIn K mainGlobals "is_ascending" = some (some (.ref f_is_ascending))) (l_is_ascending : K.lookup f_is_ascending = some ⟨oc_is_ascending, od_is_ascending, .func (PySem.W.fnOf "is_ascending" "is_ascending" (defArgs s_is_ascending) (defBody s_is_ascending) (defScope s_is_ascending) .none kV_is_ascending dc_is_ascending pm_is_ascending an_is_ascending cd_is_ascending ct_is_ascending), sl_is_ascending⟩) (c_is_ascending : PySem.W.codeIn K cd_is_ascending "is_ascending" = true) (k_is_ascending : PySem.W.keepIn K (.ref f_is_ascending) = true)
    (a_joined_at_first : PySem.W.nsIn K mainGlobals "joined_at_first" = some (some (.ref f_joined_at_first))) (l_joined_at_first : K.lookup f_joined_at_first = some ⟨oc_joined_at_first, od_joined_at_first, .func (PySem.W.fnOf "joined_at_first" "joined_at_first" (defArgs s_joined_at_first) (defBody s_joined_at_first) (defScope s_joined_at_first) .none kV_joined_at_first dc_joined_at_first pm_joined_at_first an_joined_at_first cd_joined_at_first ct_joined_at_first), sl_joined_at_first⟩) (c_joined_at_first : PySem.W.codeIn K cd_joined_at_first "joined_at_first" = true) (k_joined_at_first : PySem.W.keepIn K (.ref f_joined_at_first) = true)
    (a_joins_for : PySem.W.nsIn K mainGlobals "joins_for" = some (some (.ref f_joins_for))) (l_joins_for : K.lookup f_joins_for = some ⟨oc_joins_for, od_joins_for, .func (PySem.W.fnOf "joins_for" "joins_for" (defArgs s_joins_for) (defBody s_joins_for) (defScope s_joins_for) .none kV_joins_for dc_joins_for pm_joins_for an_joins_for cd_joins_for ct_joins_for), sl_joins_for⟩) (c_joins_for : PySem.W.codeIn K cd_joins_for "joins_for" = true) (k_joins_for : PySem.W.keepIn K (.ref f_joins_for) = true)
    (a_joins_hold : PySem.W.nsIn K mainGlobals "joins_hold" = some (some (.ref f_joins_hold))) (l_joins_hold : K.lookup f_joins_hold = some ⟨oc_joins_hold, od_joins_hold, .func (PySem.W.fnOf "joins_hold" "joins_hold" (defArgs s_joins_hold) (defBody s_joins_hold) (defScope s_joins_hold) .none kV_joins_hold dc_joins_hold pm_joins_hold an_joins_hold cd_joins_hold ct_joins_hold), sl_joins_hold⟩) (c_joins_hold : PySem.W.codeIn K cd_joins_hold "joins_hold" = true) (k_joins_hold : PySem.W.keepIn K (.ref f_joins_hold) = true)
    (a_is_join : PySem.W.nsIn K mainGlobals "is_join" = some (some (.ref f_is_join))) (l_is_join : K.lookup f_is_join = some ⟨oc_is_join, od_is_join, .func (PySem.W.fnOf "is_join" "is_join" (defArgs s_is_join) (defBody s_is_join) (defScope s_is_join) .none kV_is_join dc_is_join pm_is_join an_is_join cd_is_join ct_is_join), sl_is_join⟩) (c_is_join : PySem.W.codeIn K cd_is_join "is_join" = true) (k_is_join : PySem.W.keepIn K (.ref f_is_join) = true)
    (a_can_be_joined : PySem.W.nsIn K mainGlobals "can_be_joined" = some (some (.ref f_can_be_joined))) (l_can_be_joined : K.lookup f_can_be_joined = some ⟨oc_can_be_joined, od_can_be_joined, .func (PySem.W.fnOf "can_be_joined" "can_be_joined" (defArgs s_can_be_joined) (defBody s_can_be_joined) (defScope s_can_be_joined) .none kV_can_be_joined dc_can_be_joined pm_can_be_joined an_can_be_joined cd_can_be_joined ct_can_be_joined), sl_can_be_joined⟩) (c_can_be_joined : PySem.W.codeIn K cd_can_be_joined "can_be_joined" = true) (k_can_be_joined : PySem.W.keepIn K (.ref f_can_be_joined) = true)
    (a__law_deck : PySem.W.nsIn K mainGlobals "_law_deck" = some (some (.ref f__law_deck))) (l__law_deck : K.lookup f__law_deck = some ⟨oc__law_deck, od__law_deck, .func (PySem.W.fnOf "_law_deck" "_law_deck" (defArgs s__law_deck) (defBody s__law_deck) (defScope s__law_deck) .none kV__law_deck dc__law_deck pm__law_deck an__law_deck cd__law_deck ct__law_deck), sl__law_deck⟩) (c__law_deck : PySem.W.codeIn K cd__law_deck "_law_deck" = true) (k__law_deck : PySem.W.keepIn K (.ref f__law_deck) = true)
    (a__law_draw : PySem.W.nsIn K mainGlobals "_law_draw" = some (some (.ref f__law_draw))) (l__law_draw : K.lookup f__law_draw = some ⟨oc__law_draw, od__law_draw, .func (PySem.W.fnOf "_law_draw" "_law_draw" (defArgs s__law_draw) (defBody s__law_draw) (defScope s__law_draw) .none kV__law_draw dc__law_draw pm__law_draw an__law_draw cd__law_draw ct__law_draw), sl__law_draw⟩) (c__law_draw : PySem.W.codeIn K cd__law_draw "_law_draw" = true) (k__law_draw : PySem.W.keepIn K (.ref f__law_draw) = true)
    (a__law_pick : PySem.W.nsIn K mainGlobals "_law_pick" = some (some (.ref f__law_pick))) (l__law_pick : K.lookup f__law_pick = some ⟨oc__law_pick, od__law_pick, .func (PySem.W.fnOf "_law_pick" "_law_pick" (defArgs s__law_pick) (defBody s__law_pick) (defScope s__law_pick) .none kV__law_pick dc__law_pick pm__law_pick an__law_pick cd__law_pick ct__law_pick), sl__law_pick⟩) (c__law_pick : PySem.W.codeIn K cd__law_pick "_law_pick" = true) (k__law_pick : PySem.W.keepIn K (.ref f__law_pick) = true)
    (a__law_odd : PySem.W.nsIn K mainGlobals "_law_odd" = some (some (.ref f__law_odd))) (l__law_odd : K.lookup f__law_odd = some ⟨oc__law_odd, od__law_odd, .func (PySem.W.fnOf "_law_odd" "_law_odd" (defArgs s__law_odd) (defBody s__law_odd) (defScope s__law_odd) .none kV__law_odd dc__law_odd pm__law_odd an__law_odd cd__law_odd ct__law_odd), sl__law_odd⟩) (c__law_odd : PySem.W.codeIn K cd__law_odd "_law_odd" = true) (k__law_odd : PySem.W.keepIn K (.ref f__law_odd) = true)
    (a__law_bent : PySem.W.nsIn K mainGlobals "_law_bent" = some (some (.ref f__law_bent))) (l__law_bent : K.lookup f__law_bent = some ⟨oc__law_bent, od__law_bent, .func (PySem.W.fnOf "_law_bent" "_law_bent" (defArgs s__law_bent) (defBody s__law_bent) (defScope s__law_bent) .none kV__law_bent dc__law_bent pm__law_bent an__law_bent cd__law_bent ct__law_bent), sl__law_bent⟩) (c__law_bent : PySem.W.codeIn K cd__law_bent "_law_bent" = true) (k__law_bent : PySem.W.keepIn K (.ref f__law_bent) = true)
    (a__law_weights : PySem.W.nsIn K mainGlobals "_law_weights" = some (some (.ref f__law_weights))) (l__law_weights : K.lookup f__law_weights = some ⟨oc__law_weights, od__law_weights, .func (PySem.W.fnOf "_law_weights" "_law_weights" (defArgs s__law_weights) (defBody s__law_weights) (defScope s__law_weights) .none kV__law_weights dc__law_weights pm__law_weights an__law_weights cd__law_weights ct__law_weights), sl__law_weights⟩) (c__law_weights : PySem.W.codeIn K cd__law_weights "_law_weights" = true) (k__law_weights : PySem.W.keepIn K (.ref f__law_weights) = true)
    (a__law_drawn_joins : PySem.W.nsIn K mainGlobals "_law_drawn_joins" = some (some (.ref f__law_drawn_joins))) (l__law_drawn_joins : K.lookup f__law_drawn_joins = some ⟨oc__law_drawn_joins, od__law_drawn_joins, .func (PySem.W.fnOf "_law_drawn_joins" "_law_drawn_joins" (defArgs s__law_drawn_joins) (defBody s__law_drawn_joins) (defScope s__law_drawn_joins) .none kV__law_drawn_joins dc__law_drawn_joins pm__law_drawn_joins an__law_drawn_joins cd__law_drawn_joins ct__law_drawn_joins), sl__law_drawn_joins⟩) (c__law_drawn_joins : PySem.W.codeIn K cd__law_drawn_joins "_law_drawn_joins" = true) (k__law_drawn_joins : PySem.W.keepIn K (.ref f__law_drawn_joins) = true)
    (a__law_are_joins : PySem.W.nsIn K mainGlobals "_law_are_joins" = some (some (.ref f__law_are_joins))) (l__law_are_joins : K.lookup f__law_are_joins = some ⟨oc__law_are_joins, od__law_are_joins, .func (PySem.W.fnOf "_law_are_joins" "_law_are_joins" (defArgs s__law_are_joins) (defBody s__law_are_joins) (defScope s__law_are_joins) .none kV__law_are_joins dc__law_are_joins pm__law_are_joins an__law_are_joins cd__law_are_joins ct__law_are_joins), sl__law_are_joins⟩) (c__law_are_joins : PySem.W.codeIn K cd__law_are_joins "_law_are_joins" = true) (k__law_are_joins : PySem.W.keepIn K (.ref f__law_are_joins) = true)
    (a__law_right : PySem.W.nsIn K mainGlobals "_law_right" = some (some (.ref f__law_right))) (l__law_right : K.lookup f__law_right = some ⟨oc__law_right, od__law_right, .func (PySem.W.fnOf "_law_right" "_law_right" (defArgs s__law_right) (defBody s__law_right) (defScope s__law_right) .none kV__law_right dc__law_right pm__law_right an__law_right cd__law_right ct__law_right), sl__law_right⟩) (c__law_right : PySem.W.codeIn K cd__law_right "_law_right" = true) (k__law_right : PySem.W.keepIn K (.ref f__law_right) = true)
    (a_law : PySem.W.nsIn K mainGlobals "law" = some (some (.ref f_law))) (l_law : K.lookup f_law = some ⟨oc_law, od_law, .func (PySem.W.fnOf "law" "law" (defArgs s_law) (defBody s_law) (defScope s_law) .none kV_law dc_law pm_law an_law cd_law ct_law), sl_law⟩) (c_law : PySem.W.codeIn K cd_law "law" = true) (k_law : PySem.W.keepIn K (.ref f_law) = true)
    (z_all : PySem.W.nsIn K mainGlobals "all" = some none) (z_bool : PySem.W.nsIn K mainGlobals "bool" = some none) (z_dict : PySem.W.nsIn K mainGlobals "dict" = some none) (z_enumerate : PySem.W.nsIn K mainGlobals "enumerate" = some none) (z_int : PySem.W.nsIn K mainGlobals "int" = some none) (z_isinstance : PySem.W.nsIn K mainGlobals "isinstance" = some none) (z_len : PySem.W.nsIn K mainGlobals "len" = some none) (z_list : PySem.W.nsIn K mainGlobals "list" = some none) (z_max : PySem.W.nsIn K mainGlobals "max" = some none) (z_min : PySem.W.nsIn K mainGlobals "min" = some none) (z_range : PySem.W.nsIn K mainGlobals "range" = some none) (z_repr : PySem.W.nsIn K mainGlobals "repr" = some none) (z_set : PySem.W.nsIn K mainGlobals "set" = some none) (z_sorted : PySem.W.nsIn K mainGlobals "sorted" = some none) (z_str : PySem.W.nsIn K mainGlobals "str" = some none) (z_sum : PySem.W.nsIn K mainGlobals "sum" = some none) (z_tuple : PySem.W.nsIn K mainGlobals "tuple" = some none) (z_zip : PySem.W.nsIn K mainGlobals "zip" = some none) :
    ∃ fd : FuncData, (∀ (s : Shared) (v : Value), BindsTo s fd ⟨[v], []⟩ [("_law_script", v)]) ∧ ∀ base : Heap, K.In base → base.Ns mainGlobals mg → base.NoDigits → GFn l.prog w K mg base CX0 10 fa fd ["_law_script"] (spLaw K) := by
  have e := hfa.symm.trans (PySem.W.mg_of X G a_law)
  cases e
  have F_is_integer := fun_mk (st := s_is_integer) l_is_integer c_is_integer k_is_integer
  have b_is_integer := F_is_integer.binds (ps := ["thing"]) fun _ _ _ _ _ _ us hl => match us, hl with | [_], _ => rfl
  have m_is_integer := PySem.W.mg_of X G a_is_integer
  have F_is_below := fun_mk (st := s_is_below) l_is_below c_is_below k_is_below
  have b_is_below := F_is_below.binds (ps := ["thing", "size"]) fun _ _ _ _ _ _ us hl => match us, hl with | [_, _], _ => rfl
  have m_is_below := PySem.W.mg_of X G a_is_below
  have F_is_ascending := fun_mk (st := s_is_ascending) l_is_ascending c_is_ascending k_is_ascending
  have b_is_ascending := F_is_ascending.binds (ps := ["things"]) fun _ _ _ _ _ _ us hl => match us, hl with | [_], _ => rfl
  have m_is_ascending := PySem.W.mg_of X G a_is_ascending
  have F_joined_at_first := fun_mk (st := s_joined_at_first) l_joined_at_first c_joined_at_first k_joined_at_first
  have b_joined_at_first := F_joined_at_first.binds (ps := ["letters", "many"]) fun _ _ _ _ _ _ us hl => match us, hl with | [_, _], _ => rfl
  have m_joined_at_first := PySem.W.mg_of X G a_joined_at_first
  have F_joins_for := fun_mk (st := s_joins_for) l_joins_for c_joins_for k_joins_for
  have b_joins_for := F_joins_for.binds (ps := ["letters", "weights"]) fun _ _ _ _ _ _ us hl => match us, hl with | [_, _], _ => rfl
  have m_joins_for := PySem.W.mg_of X G a_joins_for
  have F_joins_hold := fun_mk (st := s_joins_hold) l_joins_hold c_joins_hold k_joins_hold
  have b_joins_hold := F_joins_hold.binds (ps := ["letters", "weights", "thing"]) fun _ _ _ _ _ _ us hl => match us, hl with | [_, _, _], _ => rfl
  have m_joins_hold := PySem.W.mg_of X G a_joins_hold
  have F_is_join := fun_mk (st := s_is_join) l_is_join c_is_join k_is_join
  have b_is_join := F_is_join.binds (ps := ["thing", "size", "many"]) fun _ _ _ _ _ _ us hl => match us, hl with | [_, _, _], _ => rfl
  have m_is_join := PySem.W.mg_of X G a_is_join
  have F_can_be_joined := fun_mk (st := s_can_be_joined) l_can_be_joined c_can_be_joined k_can_be_joined
  have b_can_be_joined := F_can_be_joined.binds (ps := ["told", "left", "join"]) fun _ _ _ _ _ _ us hl => match us, hl with | [_, _, _], _ => rfl
  have m_can_be_joined := PySem.W.mg_of X G a_can_be_joined
  have F__law_deck := fun_mk (st := s__law_deck) l__law_deck c__law_deck k__law_deck
  have b__law_deck := F__law_deck.binds (ps := ["_law_script"]) fun _ _ _ _ _ _ us hl => match us, hl with | [_], _ => rfl
  have m__law_deck := PySem.W.mg_of X G a__law_deck
  have F__law_draw := fun_mk (st := s__law_draw) l__law_draw c__law_draw k__law_draw
  have b__law_draw := F__law_draw.binds (ps := ["_law_deck_here", "_law_many"]) fun _ _ _ _ _ _ us hl => match us, hl with | [_, _], _ => rfl
  have m__law_draw := PySem.W.mg_of X G a__law_draw
  have F__law_pick := fun_mk (st := s__law_pick) l__law_pick c__law_pick k__law_pick
  have b__law_pick := F__law_pick.binds (ps := ["_law_deck_here", "_law_some"]) fun _ _ _ _ _ _ us hl => match us, hl with | [_, _], _ => rfl
  have m__law_pick := PySem.W.mg_of X G a__law_pick
  have F__law_odd := fun_mk (st := s__law_odd) l__law_odd c__law_odd k__law_odd
  have b__law_odd := F__law_odd.binds (ps := ["_law_deck_here", "_law_it"]) fun _ _ _ _ _ _ us hl => match us, hl with | [_, _], _ => rfl
  have m__law_odd := PySem.W.mg_of X G a__law_odd
  have F__law_bent := fun_mk (st := s__law_bent) l__law_bent c__law_bent k__law_bent
  have b__law_bent := F__law_bent.binds (ps := ["_law_deck_here", "_law_it"]) fun _ _ _ _ _ _ us hl => match us, hl with | [_, _], _ => rfl
  have m__law_bent := PySem.W.mg_of X G a__law_bent
  have F__law_weights := fun_mk (st := s__law_weights) l__law_weights c__law_weights k__law_weights
  have b__law_weights := F__law_weights.binds (ps := ["_law_deck_here"]) fun _ _ _ _ _ _ us hl => match us, hl with | [_], _ => rfl
  have m__law_weights := PySem.W.mg_of X G a__law_weights
  have F__law_drawn_joins := fun_mk (st := s__law_drawn_joins) l__law_drawn_joins c__law_drawn_joins k__law_drawn_joins
  have b__law_drawn_joins := F__law_drawn_joins.binds (ps := ["_law_deck_here", "_law_letters", "_law_weights_here"]) fun _ _ _ _ _ _ us hl => match us, hl with | [_, _, _], _ => rfl
  have m__law_drawn_joins := PySem.W.mg_of X G a__law_drawn_joins
  have F__law_are_joins := fun_mk (st := s__law_are_joins) l__law_are_joins c__law_are_joins k__law_are_joins
  have b__law_are_joins := F__law_are_joins.binds (ps := ["_law_letters", "_law_weights_here", "_law_thing"]) fun _ _ _ _ _ _ us hl => match us, hl with | [_, _, _], _ => rfl
  have m__law_are_joins := PySem.W.mg_of X G a__law_are_joins
  have F__law_right := fun_mk (st := s__law_right) l__law_right c__law_right k__law_right
  have b__law_right := F__law_right.binds (ps := ["_law_deck_here", "_law_letters", "_law_weights_here"]) fun _ _ _ _ _ _ us hl => match us, hl with | [_, _, _], _ => rfl
  have m__law_right := PySem.W.mg_of X G a__law_right
  have F_law := fun_mk (st := s_law) l_law c_law k_law
  have kb_joins_hold_thing_weights_letters := kb_of (ps := ["letters", "weights", "thing"]) (ks := ["thing", "weights", "letters"]) (g := kwThree) (gV := kwThree) F_joins_hold (fun kV doc pm an cdv ct us ws hl => by
    obtain ⟨x, y, z, rfl, rfl⟩ := kwThree_args hl
    rfl) kwThree_rel
  have T : Txt mg := ⟨PySem.W.mg_none_of X G z_all, PySem.W.mg_none_of X G z_bool, PySem.W.mg_none_of X G z_dict, PySem.W.mg_none_of X G z_enumerate, PySem.W.mg_none_of X G z_int, PySem.W.mg_none_of X G z_isinstance, PySem.W.mg_none_of X G z_len, PySem.W.mg_none_of X G z_list, PySem.W.mg_none_of X G z_max, PySem.W.mg_none_of X G z_min, PySem.W.mg_none_of X G z_range, PySem.W.mg_none_of X G z_repr, PySem.W.mg_none_of X G z_set, PySem.W.mg_none_of X G z_sorted, PySem.W.mg_none_of X G z_str, PySem.W.mg_none_of X G z_sum, PySem.W.mg_none_of X G z_tuple, PySem.W.mg_none_of X G z_zip⟩
  refine ⟨PySem.W.fnOf "law" "law" (defArgs s_law) (defBody s_law) (defScope s_law) .none kV_law dc_law pm_law an_law cd_law ct_law, fun s v => .of_eq rfl, fun base _ _ hdg => ?_⟩
  exact ok_law hdg F_law (ok_deck F__law_deck T) F__law_deck m__law_deck b__law_deck (ok_draw F__law_draw T) F__law_draw m__law_draw b__law_draw (ok_weights F__law_weights F__law_draw m__law_draw b__law_draw F__law_pick m__law_pick b__law_pick T) F__law_weights m__law_weights b__law_weights (ok_right hdg F__law_right (ok_drawn F__law_drawn_joins F__law_draw m__law_draw b__law_draw F__law_pick m__law_pick b__law_pick T) F__law_drawn_joins m__law_drawn_joins b__law_drawn_joins (ok_joins_for F_joins_for F_joined_at_first m_joined_at_first b_joined_at_first T) F_joins_for m_joins_for b_joins_for (ok_are_joins F__law_are_joins T) F__law_are_joins m__law_are_joins b__law_are_joins (ok_bent F__law_bent m__law_bent b__law_bent F__law_draw m__law_draw b__law_draw F__law_pick m__law_pick b__law_pick F__law_odd m__law_odd b__law_odd T 4) F__law_bent m__law_bent b__law_bent (ok_pick F__law_pick F__law_draw m__law_draw b__law_draw T) F__law_pick m__law_pick b__law_pick (ok_joins_hold F_joins_hold F_joined_at_first m_joined_at_first b_joined_at_first F_is_join m_is_join b_is_join F_is_below m_is_below b_is_below F_is_integer m_is_integer b_is_integer F_is_ascending m_is_ascending b_is_ascending F_can_be_joined m_can_be_joined b_can_be_joined T) F_joins_hold m_joins_hold b_joins_hold kb_joins_hold_thing_weights_letters T) F__law_right m__law_right b__law_right (ok_joins_hold F_joins_hold F_joined_at_first m_joined_at_first b_joined_at_first F_is_join m_is_join b_is_join F_is_below m_is_below b_is_below F_is_integer m_is_integer b_is_integer F_is_ascending m_is_ascending b_is_ascending F_can_be_joined m_can_be_joined b_can_be_joined T) F_joins_hold m_joins_hold b_joins_hold T
end SG
open PySem PySem.W PyProof.Rows
set_option maxHeartbeats 0 in
theorem PySem.Challenge.cw_serialhouse_k54_joins_of_any_hand_holds : PySem.Challenge.rw_serialhouse_k54_joins_of_any_hand.Holds := by
  w_on; o_law; k_head; (case hw => w_witness2)
  k_fill
  refine SG.walk_g (l := PySem.Challenge.rw_serialhouse_k54_joins_of_any_hand) (n := 63) (k := 10) (x := "_law_script") (sp := SG.spLaw) rfl (by decide) rfl ⟨rfl, by decide, by decide⟩ (fun w h Y => PySem.W.kIn_of Y) ?F (fun _ _ a ns hl _ hS => ⟨a, ns, rfl, hS, hl, fun _ => rfl⟩)
  case F =>
    intro w mg fa h KX G hmg
    refine' SG.all_mk KX G hmg ?a_is_integer ?l_is_integer ?c_is_integer ?k_is_integer ?a_is_below ?l_is_below ?c_is_below ?k_is_below ?a_is_ascending ?l_is_ascending ?c_is_ascending ?k_is_ascending ?a_joined_at_first ?l_joined_at_first ?c_joined_at_first ?k_joined_at_first ?a_joins_for ?l_joins_for ?c_joins_for ?k_joins_for ?a_joins_hold ?l_joins_hold ?c_joins_hold ?k_joins_hold ?a_is_join ?l_is_join ?c_is_join ?k_is_join ?a_can_be_joined ?l_can_be_joined ?c_can_be_joined ?k_can_be_joined ?a__law_deck ?l__law_deck ?c__law_deck ?k__law_deck ?a__law_draw ?l__law_draw ?c__law_draw ?k__law_draw ?a__law_pick ?l__law_pick ?c__law_pick ?k__law_pick ?a__law_odd ?l__law_odd ?c__law_odd ?k__law_odd ?a__law_bent ?l__law_bent ?c__law_bent ?k__law_bent ?a__law_weights ?l__law_weights ?c__law_weights ?k__law_weights ?a__law_drawn_joins ?l__law_drawn_joins ?c__law_drawn_joins ?k__law_drawn_joins ?a__law_are_joins ?l__law_are_joins ?c__law_are_joins ?k__law_are_joins ?a__law_right ?l__law_right ?c__law_right ?k__law_right ?a_law ?l_law ?c_law ?k_law ?z_all ?z_bool ?z_dict ?z_enumerate ?z_int ?z_isinstance ?z_len ?z_list ?z_max ?z_min ?z_range ?z_repr ?z_set ?z_sorted ?z_str ?z_sum ?z_tuple ?z_zip
    (case a_is_integer => k_is); (case l_is_integer => k_is); (case c_is_integer => k_is); (case k_is_integer => k_is); (case a_is_below => k_is); (case l_is_below => k_is); (case c_is_below => k_is); (case k_is_below => k_is); (case a_is_ascending => k_is); (case l_is_ascending => k_is); (case c_is_ascending => k_is); (case k_is_ascending => k_is); (case a_joined_at_first => k_is); (case l_joined_at_first => k_is); (case c_joined_at_first => k_is); (case k_joined_at_first => k_is); (case a_joins_for => k_is); (case l_joins_for => k_is); (case c_joins_for => k_is); (case k_joins_for => k_is); (case a_joins_hold => k_is); (case l_joins_hold => k_is); (case c_joins_hold => k_is); (case k_joins_hold => k_is); (case a_is_join => k_is); (case l_is_join => k_is); (case c_is_join => k_is); (case k_is_join => k_is); (case a_can_be_joined => k_is); (case l_can_be_joined => k_is); (case c_can_be_joined => k_is); (case k_can_be_joined => k_is); (case a__law_deck => k_is); (case l__law_deck => k_is); (case c__law_deck => k_is); (case k__law_deck => k_is); (case a__law_draw => k_is); (case l__law_draw => k_is); (case c__law_draw => k_is); (case k__law_draw => k_is); (case a__law_pick => k_is); (case l__law_pick => k_is); (case c__law_pick => k_is); (case k__law_pick => k_is); (case a__law_odd => k_is); (case l__law_odd => k_is); (case c__law_odd => k_is); (case k__law_odd => k_is); (case a__law_bent => k_is); (case l__law_bent => k_is); (case c__law_bent => k_is); (case k__law_bent => k_is); (case a__law_weights => k_is); (case l__law_weights => k_is); (case c__law_weights => k_is); (case k__law_weights => k_is); (case a__law_drawn_joins => k_is); (case l__law_drawn_joins => k_is); (case c__law_drawn_joins => k_is); (case k__law_drawn_joins => k_is); (case a__law_are_joins => k_is); (case l__law_are_joins => k_is); (case c__law_are_joins => k_is); (case k__law_are_joins => k_is); (case a__law_right => k_is); (case l__law_right => k_is); (case c__law_right => k_is); (case k__law_right => k_is); (case a_law => k_is); (case l_law => k_is); (case c_law => k_is); (case k_law => k_is); (case z_all => k_is); (case z_bool => k_is); (case z_dict => k_is); (case z_enumerate => k_is); (case z_int => k_is); (case z_isinstance => k_is); (case z_len => k_is); (case z_list => k_is); (case z_max => k_is); (case z_min => k_is); (case z_range => k_is); (case z_repr => k_is); (case z_set => k_is); (case z_sorted => k_is); (case z_str => k_is); (case z_sum => k_is); (case z_tuple => k_is); (case z_zip => k_is)
