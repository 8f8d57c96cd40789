import PyProof.Rows.All
import Wide.All
import OpenK.AllK
import Wide.FinOn
import KE.KStateDown
import HandS.Words
import HandS.Defaults
import HandS.Head0
import HandS.Head1
import HandS.Head2
import HandS.Head3
import HandS.HeadHook1
import HandS.HeadHook2
import HandS.HeadHook3
import HandS.HeadHook4
import HandS.ForMost
import HandS.IsInst
import HandS.Style
import HandS.Wide
import PyProof.Rows.Digits
import KE.GoesEnum
import HandS.Zip
import HandS.TupAny
import HandS.Codes
import HandS.ExcInit
import HandS.ExcField
import HandS.ExcIs
import HandS.ExcSuper
import HandS.WordsExc
import PyProof.ReprBulk
import HandS.OwnEq
import KE.KExcIs
import HandS.TryMany
import HandS.Text
import KE.GoesEnumKw
import PyProof.FString3
import PyProof.Rows.StrIntSpec
import HandS.FStr
import HandS.Walk
import KE.GoesZip
import HandS.Set
import HandS.Strs
import HandS.SortInts
import PyProof.Rows.SortShellAny
import HandS.ExcValue
import PySem.Challenge.RW_serialhouse_k00_words
import HandS.TupMul
import HandS.Gcd
import HandS.StrMore
import HandS.WideBits
import PyProof.ReprDict
import PyProof.NeKinds
import PyProof.Rows.IntBool
import PyProof.StrOps2
import HandS.RevTup
import HandS.SetFor
import KE.DataFind
import PyProof.Rows.ReprOcc
import HandS.SortRule
import HandS.Dict
import HandS.Conv
import HandS.Iter
import HandS.DictComp
import PyProof.InstEq
import HandS.SetBool
import HandS.SetKeys
import HandS.DictTup
import PyProof.DictFindH
import KE.DataCmp
import KE.SortData
set_option Elab.async false
set_option linter.all false
set_option maxRecDepth 100000
/-! a law's head by facts: what is looked at -/
namespace SG
open PySem PySem.W PySem.Calls PyProof.Rows
theorem seen_parts {q : Program} {loose mods : List Str} {Xt : Shared → Bool} {s : Shared}
    (h1 : seen ((recsOf q).map (·.name)) (ownsOf q) [] { s with gens := #[] } = expectedOf q) (h2 : s.heap.bltView = bltViewBooted)
    (h3 : (s.heap.keysOk (looseW q loose) ((recsOf q).map (·.name)) ((litsOf q).map (·.1)) ((clssOf q (looseW q loose)).map (·.name)) && s.heap.accountedOkI mods && s.heap.isNs mainGlobals && s.heap.isNs builtinsNs && tablesOk q s.heap && Xt s && s.gens.size == 0) = true)
    (h4 : tabsOk q s = true) (h5 : pinSeenD q (drecsOf q) s = pinGoodD (drecsOf q)) (h6 : plainSeenE q (looseW q loose) s = plainGoodE q (looseW q loose)) (h7 : plainSeenD q loose s = plainGoodD q loose)
    (h8 : wideSeen q s = wideGood q) (h9 : clsSeenW q loose s = clsGoodW q loose) : HandSHeadRun.seenQ q loose mods Xt s = openGood q loose := by
  rw [← HandSHeadRun.seenQ_eq]
  unfold openSeen openGood
  rw [h1, h2, h4, h5, h6, h7, h8, h9]
  have h3' := h3
  refine Prod.ext rfl (Prod.ext rfl (Prod.ext ?_ rfl))
  exact h3'
end SG
namespace SG
open PySem PySem.Spec PyProof.Rows L2
theorem fb {l : List Bool} (z : l.all id = true) (i : Nat) {b : Bool} (e : l[i]? = some b) : b = true := by
  have := List.all_eq_true.mp z b (List.mem_of_getElem? e)
  exact this
/-- an own class over Exception -/
def excB (K : PySem.W.Frag) (C : Addr) (bm : List Value) (nid : String) : Bool := match K.lookup C with
  | some ⟨.type t, _, .cls cd, sl⟩ => (match sl.toList with
    | [_, _, _, _, some (.builtin n), _] => decide (t = "type") && (decide (n = nid) && (decide (cd.mro = .ref C :: bm) && (cd.hasDict && !cd.hasDel)))
    | _ => false)
  | _ => false
theorem excB_ok {K : PySem.W.Frag} {C : Addr} {bm : List Value} {nid : String} (h : excB K C bm nid = true) :
    ∃ nm q N bs sn sub ab col dd m0 m1 m2 m3 m5, K.lookup C = some (excClassObj nm q C N bs bm true sn sub ab col dd m0 m1 m2 m3 m5 nid) := by
  unfold excB at h
  cases q : K.lookup C with
  | none => rw [q] at h; cases h
  | some o =>
    obtain ⟨oc, od, dt, sl⟩ := o
    rw [q] at h
    cases oc with
    | type t =>
      cases dt with
      | cls cd =>
        dsimp only at h
        split at h
        · rename_i k0 k1 k2 k3 n k5 hs
          obtain ⟨h1, h⟩ := He.ba h
          obtain ⟨h2, h⟩ := He.ba h
          obtain ⟨h3, h⟩ := He.ba h
          obtain ⟨h4, h5⟩ := He.ba h
          obtain ⟨nm, bs, mro, N, qn, hd, sn, sub, ab, col, del⟩ := cd
          have e1 : t = "type" := of_decide_eq_true h1
          have e2 : n = nid := of_decide_eq_true h2
          have e3 : mro = .ref C :: bm := of_decide_eq_true h3
          have e4 : hd = true := h4
          have e5 : del = false := by
            cases del with
            | false => rfl
            | true => cases h5
          obtain ⟨sl⟩ := sl
          have e6 : sl = [k0, k1, k2, k3, some (.builtin n), k5] := hs
          subst e1 e2 e3 e4 e5 e6
          exact ⟨nm, qn, N, bs, sn, sub, ab, col, od, k0, k1, k2, k3, k5, rfl⟩
        · cases h
      | _ => cases h
    | _ => cases dt <;> cases h
def intB (K : PySem.W.Frag) (x : Str) (i : Int) : Bool := match PySem.W.nsIn K mainGlobals x with
  | some (some (.int j _)) => decide (j = i)
  | _ => false
theorem intB_ok {K : PySem.W.Frag} {x : Str} {i : Int} (h : intB K x i = true) : ∃ t, PySem.W.nsIn K mainGlobals x = some (some (.int i t)) := by
  unfold intB at h
  split at h
  · rename_i j t e
    have ej : j = i := of_decide_eq_true h
    rw [ej] at e
    exact ⟨t, e⟩
  · cases h
/-! ### the hook: a part of the heap by addresses that are written down -/
abbrev AlL : Type := Bool × List He.FnW × Bool
def tabsL (g : Addr → Option Obj) (ts : List He.Defn) (K : PySem.W.Frag) : Bool := ts.all fun p => PySem.W.codeHdIn K (He.cT K p).1 (He.cT K p).2 && ((K.lookup (He.cT K p).2).isNone && (match g (He.cT K p).2 with
  | some o => He.emptyTab o
  | none => false))
def obsL (as : List Addr) (fn : List He.DefD) (ts : List He.Defn) (ex : PySem.W.Frag → Bool) (g : Addr → Option Obj) : AlL := (fn.all (fun d => d.ok (He.frG g as)), fn.map (fun d => He.fnW (He.frG g as) d.at_), ex (He.frG g as) && tabsL g ts (He.frG g as))
def valL (fn : List He.DefD) : AlL := (true, fn.map He.DefD.val, true)
structure SaysL (fn : List He.DefD) (ts : List He.Defn) (ex : PySem.W.Frag → Bool) (h : Heap) (K : PySem.W.Frag) : Prop where
  ok : (fn.all fun d => d.ok K) = true
  fs : (fn.map fun d => He.fnW K d.at_) = fn.map He.DefD.val
  more : ex K = true
  hd : ∀ p ∈ ts, PySem.W.codeHdIn K (He.cT K p).1 (He.cT K p).2 = true
  out : ∀ p ∈ ts, K.lookup (He.cT K p).2 = none
  empty : ∀ p ∈ ts, h.get? (He.cT K p).2 = some { cls := .none, data := .fields #[] }
theorem saysL_of {as : List Addr} {fn : List He.DefD} {ts : List He.Defn} {ex : PySem.W.Frag → Bool} {h : Heap} (e : obsL as fn ts ex h.get? = valL fn) : SaysL fn ts ex h (He.frG h.get? as) := by
  have e1 : (fn.all fun d => d.ok (He.frG h.get? as)) = true := congrArg (fun z : AlL => z.1) e
  have e2 : (fn.map fun d => He.fnW (He.frG h.get? as) d.at_) = fn.map He.DefD.val := congrArg (fun z : AlL => z.2.1) e
  have e3 : (ex (He.frG h.get? as) && tabsL h.get? ts (He.frG h.get? as)) = true := congrArg (fun z : AlL => z.2.2) e
  obtain ⟨e3, e4⟩ := He.ba e3
  have key : ∀ p ∈ ts, PySem.W.codeHdIn (He.frG h.get? as) (He.cT (He.frG h.get? as) p).1 (He.cT (He.frG h.get? as) p).2 = true ∧ (He.frG h.get? as).lookup (He.cT (He.frG h.get? as) p).2 = none ∧ h.get? (He.cT (He.frG h.get? as) p).2 = some { cls := .none, data := .fields #[] } := fun p hp => by
    have z := List.all_eq_true.mp e4 p hp
    obtain ⟨z1, z⟩ := He.ba z
    obtain ⟨z2, z3⟩ := He.ba z
    refine ⟨z1, by simpa using z2, ?_⟩
    cases q : h.get? (He.cT (He.frG h.get? as) p).2 with
    | none => rw [q] at z3; cases z3
    | some o => rw [q] at z3; rw [He.emptyTab_eq z3]
  exact ⟨e1, e2, e3, fun p hp => (key p hp).1, fun p hp => (key p hp).2.1, fun p hp => (key p hp).2.2⟩
def hookL (as : List Addr) (fn : List He.DefD) (ts : List He.Defn) (ex : PySem.W.Frag → Bool) : PySem.W.Hook where
  α := AlL
  obs := fun s => obsL as fn ts ex s.heap.get?
  val := fun _ => valL fn
  says := fun _ h => ∃ K : PySem.W.Frag, K.In h ∧ SaysL fn ts ex h K
  of := fun _ _ e => ⟨_, He.frG_in, saysL_of e⟩
  keeps := fun _ _ _ ⟨K, hK, c⟩ k => ⟨K, PySem.W.Frag.In.keeps hK k, ⟨c.ok, c.fs, c.more, c.hd, c.out, fun p hp => k _ _ (c.empty p hp)⟩⟩
theorem obsL_eq {as : List Addr} {fn : List He.DefD} {ts : List He.Defn} {ex : PySem.W.Frag → Bool} {g : Addr → Option Obj} {s : Shared} (h : ∀ a, g a = s.heap.get? a) : obsL as fn ts ex g = (hookL as fn ts ex).obs s := by
  have e : g = s.heap.get? := funext h
  rw [e]
  rfl
theorem SaysL.def_ {fn : List He.DefD} {ts : List He.Defn} {ex : PySem.W.Frag → Bool} {h : Heap} {K : PySem.W.Frag} (c : SaysL fn ts ex h K) (i : Nat) {d : He.DefD} (hd : fn[i]? = some d := by rfl) : ∃ fd, FunD K d.name d.qual d.params d.body d.scope (d.dvs K) (d.kws K) (He.fAd K d.at_) fd := by
  have e2 : (fn.map fun d => He.fnW K d.at_)[i]? = (fn.map He.DefD.val)[i]? := by rw [c.fs]
  rw [List.getElem?_map, List.getElem?_map, hd] at e2
  exact He.DefD.funD (Option.some.inj e2) (List.all_eq_true.mp c.ok d (List.mem_of_getElem? hd))
theorem obs_parts {as : List Addr} {fn : List He.DefD} {ts : List He.Defn} {ex : PySem.W.Frag → Bool} {g : Addr → Option Obj} (h1 : (fn.all fun d => d.ok (He.frG g as)) = true) (h2 : (fn.map fun d => He.fnW (He.frG g as) d.at_) = fn.map He.DefD.val) (h3 : ex (He.frG g as) = true) (h4 : tabsL g ts (He.frG g as) = true) :
    obsL as fn ts ex g = valL fn := by
  unfold obsL valL
  rw [h1, h2, h3, h4]
  rfl
theorem map_some {α β : Type} {X : Option α} {f : α → β} {r : β} {x : α} (hx : X = some x) (h : X.map f = some r) : f x = r := by
  rw [hx] at h
  exact Option.some.inj h
end SG

/-! Contracts of defs that know the guards: where no text of an object is being told, repr can be asked. -/
namespace SG
open PySem PySem.Spec PyProof.Rows L2

/-- a def's promise, kept wherever no guard stands -/
structure GFn (pr : Program) (wo : World) (K : PySem.W.Frag) (mg : Str → Option Value) (ba : Heap) (cx : CXT) (k : Nat) (f : Addr) (fd : FuncData) (ps : List Str) (sp : Sp) : Prop where
  len : ∀ xs Hx R Ex, sp xs Hx R Ex → xs.length = ps.length
  go : ∀ (B : Around) (fr : List Env) (st : Shared) (Hx : Hp) (ar : Args) (vals : List Value) (xs : List V) (R : VK) (Ex : XK),
    B.guards = some [] → Room k B → Env0 pr wo K mg ba B fr st Hx → BindsTo st fd ar (ps.zip vals) → Vals xs vals → sp xs Hx R Ex →
    codeAny (model pr wo) B (.call (.ref f) ar) (CR cx fr pr wo Hx st R Ex) st

variable {pr : Program} {wo : World} {K : PySem.W.Frag} {mg : Str → Option Value} {ba : Heap} {cx : CXT}

theorem GFn.mono {j k : Nat} {f : Addr} {fd : FuncData} {ps : List Str} {sp : Sp} (F : GFn pr wo K mg ba cx j f fd ps sp) (h : j ≤ k) :
    GFn pr wo K mg ba cx k f fd ps sp :=
  ⟨F.len, fun B fr st Hx ar vals xs R Ex g hr => F.go B fr st Hx ar vals xs R Ex g (hr.mono h)⟩
theorem GFn.imp {k : Nat} {f : Addr} {fd : FuncData} {ps : List Str} {sp sq : Sp} (F : GFn pr wo K mg ba cx k f fd ps sp)
    (h : ∀ xs Hx R Ex, sq xs Hx R Ex → sp xs Hx R Ex) : GFn pr wo K mg ba cx k f fd ps sq :=
  ⟨fun xs Hx R Ex q => F.len xs Hx R Ex (h _ _ _ _ q), fun B fr st Hx ar vals xs R Ex g hr e b v q => F.go B fr st Hx ar vals xs R Ex g hr e b v (h _ _ _ _ q)⟩
/-- what is kept anywhere is kept here -/
theorem GFn.of {k : Nat} {f : Addr} {fd : FuncData} {ps : List Str} {sp : Sp} (F : FnOk pr wo K mg ba cx k f fd ps sp) : GFn pr wo K mg ba cx k f fd ps sp :=
  ⟨F.len, fun B fr st Hx ar vals xs R Ex _ hr => F.run B fr st Hx ar vals xs R Ex hr⟩

/-- a def by its body -/
theorem gfn_of {k : Nat} {f : Addr} {nm qn : Str} {pa : Arguments} {bd : List Stmt} {sc : Scope} {dV kV dc pm cdv ct oc : Value} {an od : Option Addr} {osl : Array (Option Value)} {N ps : List Str} {sp : Sp}
    (lk : K.lookup f = some ⟨oc, od, .func (PySem.W.fnOf nm qn pa bd sc dV kV dc pm an cdv ct), osl⟩) (hcd : PySem.W.codeIn K cdv qn = true) (S : FnScope N ps sc)
    (len : ∀ xs Hx R Ex, sp xs Hx R Ex → xs.length = ps.length)
    (hb : ∀ (B : Around) (fr : List Env) (st : Shared) (Hx : Hp) (xs : List V) (R : VK) (Ex : XK), B.guards = some [] → Room k (B.deeper (envOfC qn sc st.heap.objs.size f cdv)) → sp xs Hx R Ex →
      ∃ t, PSs (cxOf cx pr wo K mg ba N qn sc f cdv B fr st Hx Ex) bd t ∧ t { nx := fun _ H2 => R .non H2, rt := R } (start N xs) Hx) :
    GFn pr wo K mg ba cx (k + 1) f (PySem.W.fnOf nm qn pa bd sc dV kV dc pm an cdv ct) ps sp := by
  refine ⟨len, fun B fr st Hx ar vals xs R Ex g hr e0 hbd rv hsp => ?_⟩
  have KX : K.In st.heap := e0.mod.kin.keeps fun b o e => (e0.bs b o e).1
  have lim : st.heap.NoLimit := e0.mod.nolimit.keeps fun b o e => (e0.bs b o e).1
  have hkn : ∀ y ∈ ps.zip vals, sc.names.lookup y.1 = some .local ∨ (sc.names.lookup y.1 = some .cell ∧ ((cellsFrom (st.heap.objs.size + 1) sc.names []).lookup y.1).isSome = true) := by
    rintro ⟨n, v⟩ hy
    rcases S.par n (List.of_mem_zip hy).1 with q | q
    · exact .inl q
    · exact .inr ⟨q, PySem.W.cellsFrom_some _ _ _ (.inl q)⟩
  refine codeAny_call_function hr.depth (KX _ _ lk) rfl S.co S.gen rfl (PySem.W.codeRec_of KX hcd) (hbd _ _ _ _ ?_)
  refine wpAny_newFunctionEnv_cells S.kind hkn fun env he s1 x => ?_
  subst he
  refine ⟨lim.keeps x.toInCall.keep, codeAny_func ?_⟩
  obtain ⟨t, ht, hq⟩ := hb B fr st Hx xs R Ex g (hr.deeper _) hsp
  have I : Inv (cxOf cx pr wo K mg ba N qn sc f cdv B fr st Hx Ex) [] (start N xs) Hx s1 := inv_start S hr.hd e0 (len _ _ _ _ hsp) rv x
  refine wpAny_mono (ht.run [] s1 (start N xs) Hx _ I hq) (fun fl s2 hs => ?_) fun e s2 hs => hs
  have fin : ∀ {τ : L2.St} {H2 : Hp} {v : V} {u : Value}, Inv (cxOf cx pr wo K mg ba N qn sc f cdv B fr st Hx Ex) [] τ H2 s2 → RelV v u → R v H2 → CE fr pr wo Hx st R u s2 :=
    fun {τ H2 v u} J r1 q => ⟨v, H2, J.os, J.bare, J.base, J.hok, r1, q⟩
  cases fl with
  | ret u => obtain ⟨v, τ, H2, J, r1, q⟩ := hs; exact fin J r1 q
  | next => obtain ⟨τ, H2, J, q⟩ := hs; exact fin (v := V.non) (u := Value.none) J rfl q
  | brk => obtain ⟨_, _, _, q⟩ := hs; exact q.elim
  | cont => obtain ⟨_, _, _, q⟩ := hs; exact q.elim

theorem gfun_ok {x qn : Str} {s0 : Stmt} {f : Addr} {fd : FuncData} {N ps : List Str} {k : Nat} {sp : Sp} (F : Fun K x qn s0 f fd) (S : FnScope N ps (defScope s0)) (len : ∀ xs Hx R Ex, sp xs Hx R Ex → xs.length = ps.length)
    (hb : ∀ (cdv : Value) (B : Around) (fr : List Env) (st : Shared) (Hx : Hp) (xs : List V) (R : VK) (Ex : XK), (B.deeper (envOfC qn (defScope s0) st.heap.objs.size f cdv)).guards = some [] →
      Room k (B.deeper (envOfC qn (defScope s0) st.heap.objs.size f cdv)) → sp xs Hx R Ex →
      ∃ t, PSs (cxOf CX0 pr wo K mg ba N qn (defScope s0) f cdv B fr st Hx Ex).nox (defBody s0) t ∧ t { nx := fun _ H2 => R .non H2, rt := R } (start N xs) Hx) :
    GFn pr wo K mg ba CX0 (k + 1) f fd ps sp := by
  obtain ⟨oc, od, kV, dc, pm, an, cdv, ct, osl, rfl, lk, hcd⟩ := F.ex
  refine gfn_of lk hcd S len fun B fr st Hx xs R Ex g hr hsp => ?_
  obtain ⟨t, h, q⟩ := hb cdv B fr st Hx xs R Ex g hr hsp
  exact ⟨t, h.nox, q⟩

section
variable {X : Cx} {k : Nat} {f : Addr} {fd : FuncData} {ps ks : List Str} {sp : Sp} {dvs : List V} {ds : List Value} {Ex : XK} {x : Str} {p pos : Pos} {e : Expr} {es : List Expr} {kws : List Keyword} {t tk : TA}

theorem end_of {pins : List (Addr × Obj)} {σ : L2.St} {Hx : Hp} {st s2 : Shared} {R : VK} {r : Result} (hx : Passes cx X Ex) (I : Inv X pins σ Hx st) (q : CR cx X.stack X.prog X.w Hx st R Ex r s2) :
    (match r with | .ok (.ret u) => EP X pins σ R u s2 | .ok _ => False | .error e => X.xe e s2) := by
  cases r with
  | error e => exact hx pins σ Hx st e s2 I q
  | ok fl => cases fl <;> first | exact I.after q | exact False.elim q

theorem run_g {pins : List (Addr × Obj)} {σ : L2.St} {Hx : Hp} {st : Shared} {R : VK} {ar : Args} {vals : List Value} {xs : List V} (F : GFn X.prog X.w X.K X.mg X.base cx k f fd ps sp) (hg : X.A.guards = some []) (hr : Room k X.A) (hx : Passes cx X Ex)
    (I : Inv X pins σ Hx st) (hb : BindsTo st fd ar (ps.zip vals)) (r : Vals xs vals) (h : sp xs Hx R Ex) {us : List Value} {kw : List (Str × Value)} (ea : ar = ⟨us, kw⟩) : wpAny (model X.prog X.w) X.A (call (.ref f) us kw) (EP X pins σ R) X.xe st := by
  subst ea
  refine wpAny_call (codeAny_mono (F.go X.A X.stack st Hx _ vals xs R Ex hg hr I.env0 hb r h) fun r s2 hq => ?_)
  have z := end_of hx I hq
  cases r with
  | error e => exact z
  | ok fl => cases fl <;> exact z

/-- f(a, ..) -/
theorem pe_g (F : GFn X.prog X.w X.K X.mg X.base cx k f fd ps sp) (hgu : X.A.guards = some []) (hr : Room k X.A) (hg : Gl X x) (hm : X.mg x = some (.ref f)) (hk : PySem.W.keepIn X.K (.ref f) = true) (hb : Binds X.K fd ps ds) (hd : Vals dvs ds) (hx : Passes cx X Ex)
    (ha : PA X (e :: es) t) (hdb : (x == ("__debug__" : Str)) = false := by decide) (he : starEach (e :: es) X.env = (false, eval e X.env) :: starEach es X.env := by rfl) (hpl : (backTo pos (starEach es X.env)).any (·.1) = false := by rfl) :
    PE X (.Call (.Name x p) (e :: es) [] pos) (tCall sp dvs Ex t) := by
  refine ⟨fun pins st σ Hx R I h => wpAny_Call_Name_kw (ld_glob I hg hm ?_ hdb)⟩
  refine PySem.W.callWith_K (h₀ := X.base) I.ok.mod.kin hk (thn (ha.run pos pins st σ Hx _ I h) ?_) he hpl
  rintro us s1 ⟨vs, H1, I1, r, q⟩
  have r2 : Vals (vs ++ dvs) (us ++ ds) := r.append hd
  exact ⟨I1.kIn, run_g F hgu hr hx I1 (hb s1 us I1.kIn (by rw [← r2.length]; exact F.len _ _ _ _ q)) r2 q rfl⟩

/-- f(a, .., k = b, ..) -/
theorem pe_gK {g : List Value → List Value → List Value} {gV : List V → List V → List V} (F : GFn X.prog X.w X.K X.mg X.base cx k f fd ps sp) (hgu : X.A.guards = some []) (hr : Room k X.A) (hg : Gl X x) (hm : X.mg x = some (.ref f)) (hk : PySem.W.keepIn X.K (.ref f) = true)
    (hb : KBinds X.K fd ps ks g gV) (hx : Passes cx X Ex) (ha : PA X (e :: es) t) (hkw : PK X kws tk) (hall : (backToKw pos (keywordEach kws X.env)).all (·.1.isSome) = true := by rfl) (hks : (backToKw pos (keywordEach kws X.env)).filterMap (·.1) = ks := by rfl)
    (hdb : (x == ("__debug__" : Str)) = false := by decide) (he : starEach (e :: es) X.env = (false, eval e X.env) :: starEach es X.env := by rfl)
    (hpl : ((backTo pos (starEach (e :: es) X.env)).any (·.1) || (backToKw pos (keywordEach kws X.env)).any (·.1.isNone)) = false := by rfl) :
    PE X (.Call (.Name x p) (e :: es) kws pos) (tCallK sp gV Ex t tk) := by
  refine ⟨fun pins st σ Hx R I h => wpAny_Call_Name_kw (ld_glob I hg hm ?_ hdb)⟩
  refine PySem.W.callWith_KW (h₀ := X.base) I.ok.mod.kin hk hall (thn (ha.run pos pins st σ Hx _ I h) ?_) hpl he
  rintro us s1 ⟨vs, H1, I1, r, q⟩
  refine thn (hkw.run pos pins s1 σ H1 _ I1 q) ?_
  rintro ws s2 ⟨zs, H2, I2, rz, q2⟩
  refine ⟨I2.kIn, ?_⟩
  rw [hks]
  have r2 := hb.rel r rz
  exact run_g F hgu hr hx I2 (hb.to s2 us ws I2.kIn (by rw [← r2.length]; exact F.len _ _ _ _ q2)) r2 q2 rfl
/-- f(k = b, ..) -/
theorem pe_gK0 {g : List Value → List Value → List Value} {gV : List V → List V → List V} (F : GFn X.prog X.w X.K X.mg X.base cx k f fd ps sp) (hgu : X.A.guards = some []) (hr : Room k X.A) (hg : Gl X x) (hm : X.mg x = some (.ref f)) (hk : PySem.W.keepIn X.K (.ref f) = true)
    (hb : KBinds X.K fd ps ks g gV) (hx : Passes cx X Ex) (hkw : PK X kws tk) (hall : (backToKw pos (keywordEach kws X.env)).all (·.1.isSome) = true := by rfl) (hks : (backToKw pos (keywordEach kws X.env)).filterMap (·.1) = ks := by rfl)
    (hdb : (x == ("__debug__" : Str)) = false := by decide) (hpl : ((backTo pos (starEach [] X.env)).any (·.1) || (backToKw pos (keywordEach kws X.env)).any (·.1.isNone)) = false := by rfl) :
    PE X (.Call (.Name x p) [] kws pos) (tCallK sp gV Ex tNil tk) := by
  refine ⟨fun pins st σ Hx R I h => wpAny_Call_Name_kw (ld_glob I hg hm ?_ hdb)⟩
  refine PySem.W.callWith_KW0 (h₀ := X.base) I.ok.mod.kin hk hall (thn (hkw.run pos pins st σ Hx _ I h) ?_) hpl
  rintro ws s2 ⟨zs, H2, I2, rz, q2⟩
  refine ⟨I2.kIn, ?_⟩
  rw [hks]
  have r2 := hb.rel (Paired.nil : Vals [] []) rz
  exact run_g F hgu hr hx I2 (hb.to s2 [] ws I2.kIn (by rw [← r2.length]; exact F.len _ _ _ _ q2)) r2 q2 rfl
end

/-! ### the law's own call -/
theorem law_g {mb : Str → Option Value} {k : Nat} {fa a : Addr} {fd : FuncData} {x : Str} {sp : Sp} {s1 : Shared} {its : List Value} {ns : List Int}
    (KX : K.In s1.heap) (hmg : s1.heap.Ns mainGlobals mg) (hmb : s1.heap.Ns builtinsNs mb) (hbb : ∀ x : Str, x ≠ "__name__" → mb x = bootBuiltins x) (hlim : s1.heap.NoLimit) (hdig : s1.heap.NoDigits) (hgen : s1.gens = #[])
    (ha : s1.heap.get? a = some { cls := .type "list", data := .seq its.toArray }) (hi : IntsAre its ns) (hl : ns.length ≤ sizeLine) (hr : Room k callerA)
    (F : ∀ ba : Heap, K.In ba → ba.Ns mainGlobals mg → ba.NoDigits → GFn pr wo K mg ba CX0 k fa fd [x] sp) (hbi : ∀ (st : Shared) (u : Value), BindsTo st fd ⟨[u], []⟩ [(x, u)])
    (hsp : ∀ Hx : Hp, Only Hx → SqL K Hx a (ns.map V.int) → sp [.ref a] Hx (fun v _ => v = .bl true) E0) :
    codeAny (model pr wo) callerA (.call (.ref fa) ⟨[.ref a], []⟩) (fun r s2 => r = .ok (.ret (.bool true)) ∧ OldK s1.heap s2.heap ∧ s2.os = s1.os ∧ AllBare s2.gens) s1 := by
  have rv := vals_ints hi
  have main : ∀ Hx : Hp, Only Hx → SqL K Hx a (ns.map V.int) → HOk pr wo Hx s1.heap → (∀ b, Hx b ≠ none → b = a) → (Hx a ≠ none → K.lookup a = none) →
      codeAny (model pr wo) callerA (.call (.ref fa) ⟨[.ref a], []⟩) (fun r s2 => r = .ok (.ret (.bool true)) ∧ OldK s1.heap s2.heap ∧ s2.os = s1.os ∧ AllBare s2.gens) s1 := by
    intro Hx hO hS ok one free
    have isA : ∀ {b : Addr} {u : HO}, Hx b = some u → b = a := fun {b u} q => one b (by rw [q]; nofun)
    have hid : ∀ {b : Addr} {o : Obj}, s1.heap.get? b = some o → Hx b = none → (hidT s1.heap Hx).get? b = some o := fun e n => hidT_get e n
    have noD : ∀ {b : Addr} {o : Obj} {es : Array DictEntry} {ep : Nat}, s1.heap.get? b = some o → o.data = .dict es ep → Hx b = none := by
      intro b o es ep e d
      rcases q : Hx b with _ | u
      · rfl
      · rw [isA q, ha] at e
        cases e
        cases d
    have nsH : ∀ {b : Addr} {m : Str → Option Value}, s1.heap.Ns b m → (hidT s1.heap Hx).Ns b m := by
      rintro b m ⟨o, es, ep, e, d, r⟩
      exact ⟨o, es, ep, hid e (noD e d), d, r⟩
    have kin : K.In (hidT s1.heap Hx) := by
      intro b o e
      refine hid (KX b o e) ?_
      rcases q : Hx b with _ | u
      · rfl
      · have eb := isA q
        subst eb
        rw [free (by rw [q]; nofun)] at e
        cases e
    have hM : Mod K mg (hidT s1.heap Hx) := ⟨kin, nsH hmg, ⟨mb, nsH hmb, hbb⟩, by obtain ⟨mc, h1, h2⟩ := hlim; exact ⟨mc, nsH h1, h2⟩⟩
    have e0 : Env0 pr wo K mg (hidT s1.heap Hx) callerA [] s1 Hx := ⟨rfl, hM, fun b o e => of_hidT e, Nat.le_of_eq (hidT_size _ _), trivial, fun b hb => (nomatch hb), ok, .of_eq hgen⟩
    refine codeAny_mono ((F _ kin (nsH hmg) (by obtain ⟨mc, h1, h2⟩ := hdig; exact ⟨mc, nsH h1, h2⟩)).go callerA [] s1 Hx ⟨[.ref a], []⟩ [.ref a] [.ref a] _ _ rfl hr e0 (hbi s1 (.ref a)) (.cons rfl .nil) (hsp Hx hO hS)) fun r s2 h => ?_
    rcases r with e | fl
    · exact False.elim h
    · cases fl with
      | next => exact False.elim h
      | brk => exact False.elim h
      | cont => exact False.elim h
      | ret u =>
        obtain ⟨v, H2, os, bare, un, ok2, r2, q⟩ := h
        obtain rfl : v = .bl true := q
        obtain rfl : u = Value.bool true := r2
        refine ⟨rfl, OldK.of_keep fun b o e => ?_, os, bare⟩
        rcases q : Hx b with _ | u
        · exact un.keep b o e q (fun z => nomatch z) (fun z => nomatch z)
        · rcases hO b with z | ⟨ob, xs, z⟩
          · rw [q] at z; cases z
          · obtain ⟨e1, _⟩ := ok b _ z
            obtain ⟨e2, _⟩ := ok2 b _ (un.frzs b ob _ z)
            rw [e] at e1
            cases e1
            exact e2
  rcases hk : K.lookup a with _ | o
  · refine main (fun b => if b = a then some (.frz { cls := .type "list", data := .seq its.toArray } (.lst (ns.map V.int))) else none) (fun b => ?_) (.inl (.inr ⟨_, if_pos rfl⟩)) (fun b u z => ?_) (fun b z => ?_) fun _ => hk
    · by_cases hb : b = a
      · exact .inr ⟨_, _, if_pos hb⟩
      · exact .inl (if_neg hb)
    · by_cases hb : b = a
      · cases (if_pos hb).symm.trans z
        subst hb
        exact ⟨ha, by rw [List.length_map]; exact hl, its, _, rv, ha⟩
      · cases (if_neg hb).symm.trans z
    · by_cases hb : b = a
      · exact hb
      · exact absurd (if_neg hb) z
  · have e := KX a o hk
    rw [ha] at e
    cases e
    exact main (fun _ => none) (fun _ => .inl rfl) (.inr ⟨_, its.toArray, _, hk, rfl, rfl, rfl, by rw [List.size_toArray, hi.length]; exact hl, by simpa using rv⟩) (fun b u z => nomatch z) (fun b z => absurd rfl z) fun z => absurd rfl z

theorem walk_g {l : PySem.W.OpenLaw} {n k : Nat} {q : Program} {loose : List Str} {XP : (Str → Option Value) → Heap → Prop} {YP : World → Heap → Prop} {d : DefRec} {K : Params → PySem.W.Frag} {sp : PySem.W.Frag → Sp} {x : Str}
    (hn : l.most = some n) (hn2 : n ≤ sizeLine) (hdf : d.params.defaults = []) (hr : Room k callerA)
    (hY : ∀ (wo : World) (h : Heap), YP wo h → (K wo.params).In h)
    (F : ∀ (wo : World) (mg : Str → Option Value) (fa : Addr) (h : Heap), (K wo.params).In h → h.Ns mainGlobals mg → mg d.name = some (.ref fa) →
      ∃ fd : FuncData, (∀ (st : Shared) (u : Value), BindsTo st fd ⟨[u], []⟩ [(x, u)]) ∧
        ∀ ba : Heap, (K wo.params).In ba → ba.Ns mainGlobals mg → ba.NoDigits → GFn l.prog wo (K wo.params) mg ba CX0 k fa fd [x] (sp (K wo.params)))
    (hsp : ∀ (K : PySem.W.Frag) (Hx : Hp) (a : Addr) (ns : List Int), ns.length ≤ n → Only Hx → SqL K Hx a (ns.map V.int) → sp K [.ref a] Hx (fun v _ => v = .bl true) E0) :
    PySem.W.WalkO q loose XP YP l.row.toRowW d [] (fun f vs => PySem.call f vs) := by
  refine Att.attach_call hn hdf fun w s₀ s₁ mg mb fa o pm cd doc a vs ns G Y ho hd hcd hmg hobj hints hlen hg => ?_
  have KX := hY w _ Y
  obtain ⟨fd, hb, hF⟩ := F w mg fa _ KX G.T.g hmg
  exact law_g KX G.T.g G.T.b G.T.builtins G.T.nolimit G.T.nodigits hg hobj hints (Nat.le_trans hlen hn2) hr hF hb fun Hx hO hS => hsp _ Hx a ns hlen hO hS
end SG

/-! repr of data at any depth, with ints of up to 4300 figures. -/
namespace SG
open PySem PySem.Spec PyProof.Rows L2

mutual
/-- data whose ints can be told -/
def tellable : PyData → Bool
  | .int i => decide (i.natAbs < 10 ^ 4300)
  | .list xs => tellableAll xs
  | .tuple xs => tellableAll xs
  | .dict _ => false
  | .none => true
  | .bool _ => true
  | .str _ => true
def tellableAll : List PyData → Bool
  | [] => true
  | x :: xs => tellable x && tellableAll xs
end

section
variable {pr : Program} {wo : World} {B : Around} {Er : Value → Shared → Prop} {st : Shared}
theorem int_told {i : Int} {t : Tok} {Q : Value → Shared → Prop} (hn : st.heap.NoDigits) (hi : i.natAbs < 10 ^ 4300) (hq : Q (.str (toString i) st.toks) { st with toks := st.toks + 1 }) :
    wpAny (model pr wo) B (call (.builtin "int.__repr__") [.int i t]) Q Er st := by
  refine wpAny_call_entry F.slot_int_repr (typeIs_int st i t) F.entry_int_repr ?_ (F.args_int_repr_1 _)
  unfold Builtin.«int.__repr__»
  show wpAny _ _ (Builtin.overDigitLimit? i >>= _) _ _ st
  exact wpAny_bind (overDigitLimit_any hn (fun h => wpAny_bind (wpAny_mkStr (wpAny_pure ⟨_, rfl, hq⟩) (int_text_fits10 h))) fun h => absurd hi (Nat.not_lt.mpr h))
theorem int_shown {i : Int} {t : Tok} {Q : Value → Shared → Prop} (hu : B.units < cLine) (hn : st.heap.NoDigits) (hi : i.natAbs < 10 ^ 4300) (hq : Q (.str (toString i) st.toks) { st with toks := st.toks + 1 }) :
    wpAny (model pr wo) B (pyReprObj (.int i t)) Q Er st :=
  wpAny_pyReprObj_slot hu (typeIs_int _ i t) F.slot_int_repr.toG (int_told hn hi ⟨_, _, rfl, hq⟩)
theorem int_repr {i : Int} {t : Tok} {Q : Value → Shared → Prop} (hu : B.units + 1 < cLine) (hn : st.heap.NoDigits) (hi : i.natAbs < 10 ^ 4300) (hq : Q (.str (toString i) st.toks) { st with toks := st.toks + 1 }) :
    wpAny (model pr wo) B (call (.builtin "repr") [.int i t]) Q Er st :=
  call_repr_slot hu (typeIs_int _ i t) F.slot_int_repr.toG (int_told hn hi ⟨_, _, rfl, hq⟩)
theorem reprK_int {as : List Addr} {h₀ : Heap} {i : Int} {t : Tok} (hn : h₀.NoDigits) (hi : i.natAbs < 10 ^ 4300) (d : Nat) : ReprK pr wo as h₀ d (.int i t) (toString i) := by
  intro base hb A g E s Q hg hcl hu hk hQ
  rw [pyReprUnder_leaf (v := .int i t) (by omega) (fun _ e => nomatch e)]
  unfold pyRepr
  exact wpAny_bind (int_shown (by omega) (hn.keeps hk) hi (wpAny_pure (hQ s.heap _ fun _ _ e => e)))
mutual
theorem reprK_any {h₀ : Heap} (hn : h₀.NoDigits) : ∀ {v : Value} {d : PyData} {as : List Addr}, Reads h₀ v d as → tellable d = true → d.shown.length ≤ sizeLine →
    ∃ bs, ReadAtMost h₀ d.depth bs ∧ ReprK pr wo bs h₀ d.depth v d.shown := by
  intro v d as r ht hz
  cases r with
  | none => exact ⟨[], (fun _ h => nomatch h), by simp only [PyData.shown]; exact .of_is ReprIs.none _ _ _⟩
  | bool b => exact ⟨[], (fun _ h => nomatch h), by simp only [PyData.shown]; exact .of_is (ReprIs.bool b) _ _ _⟩
  | str x t => exact ⟨[], (fun _ h => nomatch h), by simp only [PyData.shown] at hz ⊢; exact .of_is (ReprIs.str x t hz) _ _ _⟩
  | int i t => exact ⟨[], (fun _ h => nomatch h), by simp only [PyData.shown]; exact reprK_int hn (of_decide_eq_true (by simpa only [tellable] using ht)) _⟩
  | list q1 q2 q3 q4 =>
    rename_i a o arr n xs bs₀
    have hz2 : (listText (PyData.shownAll xs)).length ≤ sizeLine := by simpa only [PyData.shown] using hz
    obtain ⟨bs, rb, kb⟩ := reprAllK_any hn q4 (by simpa [tellable] using ht) fun t m => Nat.le_trans (listText_mem_le m) hz2
    have whole : Reads h₀ (.ref a) (.list xs) _ := .list q1 q2 q3 q4
    refine ⟨a :: bs, ReadAtMost.cons whole (by simp only [PyData.depth]; omega) rb, ?_⟩
    have notIn : a ∉ bs := not_mem_of_deeper whole (by simp only [PyData.depth]; omega) rb
    simp only [PyData.depth, PyData.shown]
    rcases arr with ⟨_ | ⟨y, l⟩⟩
    · cases (show ReadsAll h₀ [] xs _ from q4)
      simp only [PyData.shownAll, listText_nil]
      exact ReprK.listEmpty q1 q2 q3
    · exact ReprK.list q1 q2 q3 notIn (by simpa using kb.length_eq) fun i y e => kb.item i y (by simpa using e)
  | tuple q1 q2 q3 q4 =>
    rename_i a o arr n xs
    have hz2 : (tupleText (PyData.shownAll xs)).length ≤ sizeLine := by simpa only [PyData.shown] using hz
    obtain ⟨bs, rb, kb⟩ := reprAllK_any hn q4 (by simpa [tellable] using ht) fun t m => Nat.le_trans (tupleText_mem_le m) hz2
    have whole : Reads h₀ (.ref a) (.tuple xs) _ := .tuple q1 q2 q3 q4
    refine ⟨a :: bs, ReadAtMost.cons whole (by simp only [PyData.depth]; omega) rb, ?_⟩
    have notIn : a ∉ bs := not_mem_of_deeper whole (by simp only [PyData.depth]; omega) rb
    simp only [PyData.depth, PyData.shown]
    exact ReprK.tuple q1 q2 q3 notIn kb
  | dict => simp [tellable] at ht
theorem reprAllK_any {h₀ : Heap} (hn : h₀.NoDigits) : ∀ {vs : List Value} {ds : List PyData} {as : List Addr}, ReadsAll h₀ vs ds as → tellableAll ds = true → (∀ t ∈ PyData.shownAll ds, t.length ≤ sizeLine) →
    ∃ bs, ReadAtMost h₀ (PyData.depthAll ds) bs ∧ ReprAllK pr wo bs h₀ (PyData.depthAll ds) vs (PyData.shownAll ds) := by
  intro vs ds as r ht hz
  cases r with
  | nil => exact ⟨[], (fun _ h => nomatch h), by simp only [PyData.shownAll]; exact .nil⟩
  | cons q1 q2 =>
    rename_i v vs d ds as₁ as₂
    have ht2 : tellable d = true ∧ tellableAll ds = true := by simpa [tellableAll] using ht
    obtain ⟨c1, rc1, k1⟩ := reprK_any hn q1 ht2.1 (hz _ (by simp only [PyData.shownAll]; exact List.mem_cons_self))
    obtain ⟨c2, rc2, k2⟩ := reprAllK_any hn q2 ht2.2 fun t m => hz t (by simp only [PyData.shownAll]; exact List.mem_cons_of_mem _ m)
    refine ⟨c1 ++ c2, (rc1.mono ?_).append (rc2.mono ?_), ?_⟩
    · simp only [PyData.depthAll]; exact Nat.le_max_left _ _
    · simp only [PyData.depthAll]; exact Nat.le_max_right _ _
    · simp only [PyData.depthAll, PyData.shownAll]
      exact .cons ((k1.more fun b m => List.mem_append_left _ m).level_le (Nat.le_max_left _ _)) (k2.more_le (fun b m => List.mem_append_right _ m) (Nat.le_max_right _ _))
end
/-- repr of what is no leaf -/
theorem repr_ref {h₀ : Heap} {a : Addr} {d : PyData} {as : List Addr} {Q : Value → Shared → Prop} (hn : h₀.NoDigits) (r : Reads h₀ (.ref a) d as) (ht : tellable d = true) (hz : d.shown.length ≤ sizeLine)
    (hg : B.guards = some []) (hu : B.units + (d.depth + 1) < cLine) (hk : ∀ b o, h₀.get? b = some o → st.heap.get? b = some o)
    (hQ : ∀ h2 u tk, (∀ b o, st.heap.get? b = some o → h2.get? b = some o) → Q (.str d.shown u) { st with heap := h2, toks := tk }) :
    wpAny (model pr wo) B (call (.builtin "repr") [.ref a]) Q Er st := by
  cases r with
  | list q1 q2 q3 q4 =>
    rename_i o arr n xs bs₀
    have whole : Reads h₀ (.ref a) (.list xs) _ := .list q1 q2 q3 q4
    simp only [PyData.depth] at hu
    simp only [PyData.shown] at hQ hz
    obtain ⟨bs, rb, kb⟩ := reprAllK_any (pr := pr) (wo := wo) hn q4 (by simpa [tellable] using ht) fun t m => Nat.le_trans (listText_mem_le m) hz
    have notIn : a ∉ bs := not_mem_of_deeper whole (by simp only [PyData.depth]; omega) rb
    refine call_repr_slot (by omega) ⟨o, hk _ _ q1, q2⟩ F.slot_list_repr.toG ?_
    rcases arr with ⟨_ | ⟨y, l⟩⟩
    · cases (show ReadsAll h₀ [] xs _ from q4)
      simp only [PyData.shownAll, listText_nil] at hQ
      exact call_list_repr_empty ⟨o, hk _ _ q1, q2⟩ (hk _ _ q1) q3 ⟨_, _, rfl, hQ st.heap _ _ fun _ _ e => e⟩
    · exact call_list_reprK q1 q2 q3 notIn (by simpa using kb.length_eq) (fun i y e => kb.item i y (by simpa using e)) hg (fun b _ => Clear.nil b) (by show B.units + 1 + _ < _; omega) hk (fun h2 u tk q => ⟨_, _, rfl, hQ h2 u tk q⟩) hz
  | tuple q1 q2 q3 q4 =>
    rename_i o arr n xs
    have whole : Reads h₀ (.ref a) (.tuple xs) _ := .tuple q1 q2 q3 q4
    simp only [PyData.depth] at hu
    simp only [PyData.shown] at hQ hz
    obtain ⟨bs, rb, kb⟩ := reprAllK_any (pr := pr) (wo := wo) hn q4 (by simpa [tellable] using ht) fun t m => Nat.le_trans (tupleText_mem_le m) hz
    have notIn : a ∉ bs := not_mem_of_deeper whole (by simp only [PyData.depth]; omega) rb
    refine call_repr_slot (by omega) ⟨o, hk _ _ q1, q2⟩ F.slot_tuple_repr ?_
    exact call_tuple_reprK q1 q2 q3 notIn kb hg (fun b _ => Clear.nil b) (by show B.units + 1 + _ < _; omega) hk (fun h2 u tk q => ⟨_, _, rfl, hQ h2 u tk q⟩) hz
  | dict => simp [tellable] at ht
/-- repr of the empty dict -/
theorem repr_dict0 {a : Addr} {o : Obj} {n : Nat} {Q : Value → Shared → Prop} (q1 : st.heap.get? a = some o) (q2 : o.cls = .type "dict") (q3 : o.data = .dict #[] n) (hs : (a == sysModules) = false)
    (hg : B.guards = some []) (hu : B.units + 2 < cLine)
    (hQ : ∀ h2 u tk, (∀ b o, st.heap.get? b = some o → h2.get? b = some o) → Q (.str "{}" u) { st with heap := h2, toks := tk }) :
    wpAny (model pr wo) B (call (.builtin "repr") [.ref a]) Q Er st := by
  have r : Reads st.heap (.ref a) (.dict []) ([a] ++ []) := .dict (as := []) (bs := []) q1 q2 q3 .nil .nil
  refine repr_of_reads' (d := .dict []) r rfl (fun _ m => ?_) hg (by show B.units + (PyData.depth (.dict []) + 1) < _; simp only [PyData.depth, PyData.depthKv]; omega) (fun _ _ e => e) ?_ (by decide +kernel)
  · have e : sysModules = a := by simpa using m
    rw [e] at hs
    simp at hs
  · have e : PyData.shown (.dict []) = "{}" := by decide +kernel
    rw [e]
    exact hQ
end

section
variable {X : Cx}
/-- no limit of its own was put to the figures of ints -/
theorem digs {pins : List (Addr × Obj)} {σ : L2.St} {Hx : Hp} {st : Shared} (hn : X.base.NoDigits) (I : Inv X pins σ Hx st) : st.heap.NoDigits := hn.keeps I.bk
def rRepr (K : PySem.W.Frag) : List V → Hp → VK → Prop := fun xs Hx R => ∃ x, xs = [x] ∧
  ((∃ d, Dp K Hx x d ∧ tellable d = true ∧ d.depth ≤ 60 ∧ d.shown.length ≤ sizeLine ∧ R (.str d.shown) Hx) ∨ (∃ a, x = .ref a ∧ Hx a = some (.dK []) ∧ R (.str "{}") Hx))
theorem call_reprG (hn : X.base.NoDigits) (hg : X.A.guards = some []) {k : Nat} (hr : Room k X.A) : CallR X (.builtin "repr") (rRepr X.K) := by
  intro pins st σ Hx xs us R I rv h
  obtain ⟨x, rfl, h⟩ := h
  obtain ⟨u, rfl, rx⟩ : ∃ u, us = [u] ∧ RelV x u := by
    cases rv with
    | cons a b => cases b; exact ⟨_, rfl, a⟩
  have hu := hr.units
  rcases h with ⟨d, hd, ht, hdep, hz, q⟩ | ⟨a, rfl, ha, q⟩
  · cases x with
    | ref a =>
      obtain ⟨as, r⟩ := Dp.reads I d (.ref a) u hd rx
      obtain rfl : u = Value.ref a := rx
      exact repr_ref (digs hn I) r ht hz hg (by omega) (fun _ _ e => e) fun h2 u tk hk => ⟨.str _, Hx, I.kept (t' := tk) hk, ⟨_, rfl⟩, q⟩
    | int i =>
      obtain ⟨t, rfl⟩ := rx
      cases hd
      simp only [PyData.shown] at q
      exact int_repr (by omega) (digs hn I) (of_decide_eq_true (by simpa only [tellable] using ht)) ⟨.str _, Hx, I.tok _, ⟨_, rfl⟩, q⟩
    | str y =>
      obtain ⟨t, rfl⟩ := rx
      cases hd
      simp only [PyData.shown] at q hz
      exact PySem.P.repr_of_str ⟨.str _, Hx, I.tok _, ⟨_, rfl⟩, q⟩ hz
    | bl b =>
      obtain rfl : u = Value.bool b := rx
      cases hd
      simp only [PyData.shown] at q
      exact PySem.P.repr_of_bool ⟨.str _, Hx, I.tok _, ⟨_, rfl⟩, q⟩
    | non =>
      obtain rfl : u = Value.none := rx
      cases hd
      simp only [PyData.shown] at q
      exact PySem.P.repr_of_none ⟨.str _, Hx, I.tok _, ⟨_, rfl⟩, q⟩
    | byt b => cases hd
    | flt b => cases hd
    | ty b => cases hd
  · obtain rfl : u = Value.ref a := rx
    obtain ⟨_, hs, vs, kv, o, es, ep, e1, e2, e3, e4, e5, _⟩ := I.hok a _ ha
    cases kv
    have e6 : es = #[] := by
      cases es with
      | mk l => cases l with
        | nil => rfl
        | cons y l => cases e5
    subst e6
    exact repr_dict0 e1 e2.1 e3 hs hg (by omega) fun h2 u tk hk => ⟨.str _, Hx, I.kept (t' := tk) hk, ⟨_, rfl⟩, q⟩
end
end SG

/-! enumerate of a tuple. -/
namespace SG
open PySem PySem.Spec PyProof.Rows L2

set_option maxHeartbeats 1000000 in
theorem meets_enum1 {v : Value} {o : Obj} {Ho : Heap → Prop} (B : Begins v o Ho) :
    Meets (Builtin.«enumerate.__new__» ⟨[.type "enumerate", v], []⟩) (fun _ R st => Ho st.heap ∧
      R (.ok (.ret (.ref (st.heap.push o).objs.size))) { st with heap := (st.heap.push o).push { cls := .type "enumerate", data := .fields #[.none, .bool false, .ref st.heap.objs.size, rawInt 0, .none, .none] } }) :=
  .of_wp fun prog w A R st h => by
    obtain ⟨hp, g, d, tk, os⟩ := st
    obtain ⟨h1, h⟩ := h
    have hsub := sub_enumerate
    have it1 : ∀ {A' : Around} {E : Value → Shared → Prop} {Q : Value → Shared → Prop}, Q (.ref hp.objs.size) ⟨hp.push o, g, d, tk, os⟩ → wpAny (model prog w) A' (pyIter v) Q E ⟨hp, g, d, tk, os⟩ :=
      fun q => B.iter prog w _ _ ⟨hp, g, d, tk, os⟩ _ h1 q
    wp_walk using it1
    refine wpAny_stack_any fun stk => wpAny_pure ?_
    split
    · rename_i c _ _ _ _ _
      cases (c == Value.type "enumerate")
      · wp_walk using it1
        exact ⟨_, rfl, h⟩
      · wp_walk using it1
        exact ⟨_, rfl, h⟩
    · wp_walk using it1
      exact ⟨_, rfl, h⟩
section
variable {prog : Program} {w : World} {A : Around} {E : Value → Shared → Prop} {st : Shared}
theorem enum1_begins {v : Value} {o : Obj} {Ho : Heap → Prop} {Q : Value → Shared → Prop} (B : Begins v o Ho) (h1 : Ho st.heap)
    (h : ∀ h2, IsEnum h2 (st.heap.objs.size + 1) st.heap.objs.size 0 .none → h2.get? st.heap.objs.size = some o → h2.objs.size = st.heap.objs.size + 2 →
      (∀ b u, st.heap.get? b = some u → h2.get? b = some u) → Q (.ref (st.heap.objs.size + 1)) { st with heap := h2 }) :
    wpAny (model prog w) A (call (.type "enumerate") [v]) Q E st := by
  refine callType_new F.called_enumerate (by decide) (F.typeCall_enumerate_1 _) (F.newCall_enumerate_1 _) (fun obj => F.args_object_init_2 obj _) F.entry_enumerate_new (meets_enum1 B) ⟨h1, ?_⟩
  have hz : (st.heap.push o).objs.size = st.heap.objs.size + 1 := Heap.size_push ..
  show _ ∧ _
  rw [hz]
  have he : IsEnum ((st.heap.push o).push { cls := .type "enumerate", data := .fields #[.none, .bool false, .ref st.heap.objs.size, rawInt 0, .none, .none] }) (st.heap.objs.size + 1) st.heap.objs.size 0 .none := by
    have z := Heap.get?_push_size (st.heap.push o) (o := { cls := .type "enumerate", data := .fields #[.none, .bool false, .ref st.heap.objs.size, rawInt 0, .none, .none] }) rfl
    rw [hz] at z
    exact z
  exact ⟨⟨_, he, rfl⟩, h _ he (Heap.get?_push_of_some _ (Heap.get?_push_size _ B.free)) (by rw [Heap.size_push, hz]) fun b u x => Heap.get?_push_of_some _ (Heap.get?_push_of_some _ x)⟩
end

/-- the tuple at a, each item in a new pair -/
def IteT (K : PySem.W.Frag) (a : Addr) : It :=
  ⟨fun i Hx => ∃ (xs : List V) (x : V), SqT K Hx a xs ∧ xs[i]? = some x, fun i Hx v H2 => ∃ T x, v = .ref T ∧ Hx T = none ∧ H2 = upd Hx T (.tup [.int (i : Nat), x]) ∧ ∀ xs, SqT K Hx a xs → xs[i]? = some x, fun i Hx => ∃ xs : List V, SqT K Hx a xs ∧ xs.length ≤ i⟩
theorem turn_enumT {P : Program} {w : World} {K : PySem.W.Frag} {elts : List Expr} {kk : Nat} {tpos : Pos} (a e it : Addr) :
    Turn P w K (.Tuple elts kk tpos) (IteT K a) [e, it] e (fun i h => (∃ old, IsEnum h e it ((i : Nat) : Int) old) ∧ h.IsTupleIter it a i ∧ e ≠ it ∧ a ≠ it ∧ a ≠ e) where
  mem := by simp
  obj := fun i h q b hb => by
    obtain ⟨⟨old, he⟩, ⟨o, ho, hc, hd⟩, _⟩ := q
    rcases (show b = e ∨ b = it by simpa using hb) with z | z
    · rw [z]; exact ⟨_, he, fun v q => nomatch q⟩
    · rw [z]; exact ⟨o, ho, fun v q => by rw [hd] at q; cases q⟩
  keep := fun i h h2 q k => by
    obtain ⟨⟨old, he⟩, hi, hne⟩ := q
    exact ⟨⟨old, k e (by simp) _ he⟩, hi.at fun o q => k it (by simp) o q, hne⟩
  item := by
    intro X hP hw hK hc i pins st σ Hx E I hf q hg
    subst hP hw hK
    obtain ⟨⟨old, he⟩, hit, hne, n1, n2⟩ := q
    obtain ⟨xs, x, hq, hx⟩ := hg
    obtain ⟨its, rv, p, hz⟩ := I.tuple hq
    obtain ⟨u, hu, ru⟩ := rv.get hx
    have hel : e < st.heap.objs.size := Heap.lt_size he
    have hil : it < st.heap.objs.size := by obtain ⟨_, z, _⟩ := hit; exact Heap.lt_size z
    have hi : i < its.toArray.size := by
      have z := (List.getElem?_eq_some_iff.mp hu).1
      simpa using z
    refine wpAny_pyNext_enum_itemD (Draws.tuple (prog := X.prog) (w := X.w) (A := X.A.in1) (I.ok.hd hc) it a n1 its.toArray) he ⟨hit, p⟩ hi hne (by simp [hne, n2.symm]) fun y h1 tk hy ho hs1 hT hsz hk => ?_
    obtain rfl : y = u := by
      rw [show its.toArray[i]? = some u by simpa using hu] at hy
      exact (Option.some.inj hy).symm
    refine ⟨_, rfl, wpAny_letOwnedTupleGo_enum (s := { st with heap := h1, toks := tk + 1 }) ho fun h2 he2 sb => ?_⟩
    have hT2 : h2.get? st.heap.objs.size = some { cls := .type "tuple", data := .seq #[.int i tk, y] } := (sb.2 _ (Nat.ne_of_gt hel)).trans hT
    have new : ObjOk X.prog X.w (upd Hx st.heap.objs.size (.tup [.int (i : Nat), x])) h2 st.heap.objs.size (.tup [.int (i : Nat), x]) :=
      ⟨by show 2 ≤ sizeLine; decide, [.int i tk, y], .cons ⟨_, rfl⟩ (.cons ru .nil), ⟨_, hT2, rfl, _, rfl⟩⟩
    have I1 : L2.Inv X pins σ (upd Hx st.heap.objs.size (.tup [.int (i : Nat), x])) { st with heap := h2, toks := tk + 1 } :=
      I.turnedNew (ch := [e, it]) (fun b ob hb z => (sb.2 b (fun z => hb (by simp [z]))).trans (hk b ob (fun z => hb (by simp [z])) (fun z => hb (by simp [z])) z)) hf (Nat.le_refl _) new
    refine ⟨.ref st.heap.objs.size, _, I1, rfl, ⟨_, x, rfl, I.hok.fresh (Nat.le_refl _), rfl, fun ys hy => by rw [I.tuple_inj hy hq]; exact hx⟩, ⟨⟨y, ?_⟩, hs1.1.at fun o z => (sb.2 it (Ne.symm hne)).trans z, hne, n1, n2⟩, fun b hb => ?_⟩
    · rw [show ((i + 1 : Nat) : Int) = (i : Int) + 1 by omega]
      exact he2
    · have hb2 : b < st.heap.objs.size := by
        rcases (show b = e ∨ b = it by simpa using hb) with z | z
        · rw [z]; exact hel
        · rw [z]; exact hil
      rw [upd_ne (Nat.ne_of_lt hb2)]
      exact (hf b hb).1
  done := by
    intro X hP hw hK hc i pins st σ Hx E I hf q hg
    subst hP hw hK
    obtain ⟨⟨old, he⟩, hit, hne, n1, n2⟩ := q
    obtain ⟨xs, hq, hx⟩ := hg
    obtain ⟨its, rv, p, hz⟩ := I.tuple hq
    obtain ⟨f0, f1, f2, f3, f4, f5⟩ := hf it (by simp)
    have hl := rv.length
    have D : Draws X.prog X.w X.A.in1 it [it, a] i (fun _ _ => True) (fun j h => j = i ∧ h.IsTupleIter it a i ∧ h.IsTuple a its.toArray) :=
      { live := fun _ _ z => by obtain ⟨_, ⟨o, ho, _⟩, _⟩ := z; exact ⟨o, ho⟩
        frame := fun _ _ _ z hk => ⟨z.1, z.2.1.at fun o e => hk it (by simp) o e, z.2.2.at fun o e => hk a (by simp) o e⟩
        item := fun j s Q E hj z => absurd z.1 (Nat.ne_of_lt hj)
        done := fun s Q E z hE => wpAny_nextOf_tuple_end (I.ok.hd hc) z.2.1 z.2.2 (by simp; omega) hE }
    exact wpAny_pyNext_enum_endD D he ⟨rfl, hit, p⟩ fun h2 eb => ⟨rfl, I.turned (t' := st.toks) (fun b o hb q => eb b o hb q) f0 f1 f3 f4 f5⟩
  self := fun A i st Q E q h => by
    obtain ⟨⟨_, he⟩, _⟩ := q
    exact wpAny_pyIter_enum he h
def iEnumT (K : PySem.W.Frag) (ta : TA) : TI := fun σ Hx R => ta σ Hx fun vs H1 => ∃ a xs, vs = [.ref a] ∧ SqT K H1 a xs ∧ R (IteT K a) H1
theorem pi_enumT {X : Cx} {e : Expr} {ta : TA} {p pos tpos : Pos} {elts : List Expr} {kk : Nat} (hg : Gl X "enumerate") (hm : X.mg "enumerate" = none) (ha : PA X [e] ta) (hs : starEach [e] X.env = [(false, eval e X.env)] := by rfl) :
    PI X (.Tuple elts kk tpos) (.Call (.Name "enumerate" p) [e] [] pos) (iEnumT X.K ta) := by
  refine ⟨fun pins st σ Hx R I h => ?_⟩
  refine Call_ (ld_blt I hg hm boot_enumerate (PyProof.Rows.callWith_type1 (thn (ha.run pos pins st σ Hx _ I h) ?_) hs rfl))
  rintro us s1 ⟨vs, H1, I1, r1, a, xs, rfl, hq, q⟩
  obtain ⟨u, rfl, ru⟩ : ∃ u, us = [u] ∧ RelV (.ref a) u := by
    cases r1 with
    | cons x y => cases y; exact ⟨_, rfl, x⟩
  obtain rfl : u = Value.ref a := ru
  obtain ⟨its, rv, p2, hz⟩ := I1.tuple hq
  have al : a < s1.heap.objs.size := p2.lt
  refine enum1_begins (begins_tuple a its.toArray) p2 fun h2 he hit hsz hk => wpAny_pyIter_enum he ?_
  have I2 : L2.Inv X pins σ H1 { s1 with heap := h2 } := I1.kept (t' := s1.toks) hk
  refine ⟨s1.heap.objs.size + 1, [s1.heap.objs.size + 1, s1.heap.objs.size], _, _, H1, rfl, I2, turn_enumT a (s1.heap.objs.size + 1) s1.heap.objs.size,
    ⟨⟨.none, he⟩, ⟨_, hit, rfl, rfl⟩, Nat.succ_ne_self _, Nat.ne_of_lt al, Nat.ne_of_lt (Nat.lt_succ_of_lt al)⟩, fun b hb => ?_, q⟩
  have hle : s1.heap.objs.size ≤ b := by
    rcases (show b = s1.heap.objs.size + 1 ∨ b = s1.heap.objs.size by simpa using hb) with z | z
    · rw [z]; exact Nat.le_succ _
    · rw [z]; exact Nat.le_refl _
  exact I1.fpOk hle (I1.hok.fresh hle)
end SG

/-! The deck that laws draw from; what stays when it is drawn from. -/
namespace SG
open PySem PySem.Spec PyProof.Rows L2

abbrev kC : Key := Sum.inr ("cells" : Str)
abbrev kM : Key := Sum.inr ("mixed" : Str)
abbrev kD : Key := Sum.inr ("draws" : Str)
theorem kne1 : ¬ kC = kM := by decide +kernel
theorem kne2 : ¬ kC = kD := by decide +kernel
theorem kne3 : ¬ kM = kD := by decide +kernel
def deckO (l : Addr) (m n : Int) : List (Key × V) := [(kC, .ref l), (kM, .int m), (kD, .int n)]
theorem deck_cells (l : Addr) (m n : Int) : valV (deckO l m n) kC = some (.ref l) := valV_pos rfl
theorem deck_mixed (l : Addr) (m n : Int) : valV (deckO l m n) kM = some (.int m) := (valV_neg kne1).trans (valV_pos rfl)
theorem deck_draws (l : Addr) (m n : Int) : valV (deckO l m n) kD = some (.int n) := (valV_neg kne2).trans ((valV_neg kne3).trans (valV_pos rfl))
theorem deck_put (l : Addr) (m n k : Int) : putK (deckO l m n) kD (.int k) = deckO l m k := by
  have e : (decide (kD = kD)) = true := decide_eq_true rfl
  show (if (decide (kC = kD) || (decide (kM = kD) || (decide (kD = kD) || false))) = true then [if kC = kD then (kC, V.int k) else (kC, V.ref l), if kM = kD then (kM, V.int k) else (kM, V.int m), if kD = kD then (kD, V.int k) else (kD, V.int n)] else _) = _
  rw [decide_eq_false kne2, decide_eq_false kne3, e, if_neg kne2, if_neg kne3, if_pos rfl]
  rfl
theorem deck_made (l : Addr) (m n : Int) : mergeK [] (deckO l m n) = deckO l m n := by
  have e1 : putK ([] : List (Key × V)) kC (.ref l) = [(kC, .ref l)] := rfl
  have e2 : putK [(kC, V.ref l)] kM (.int m) = [(kC, .ref l), (kM, .int m)] := by
    show (if (decide (kC = kM) || false) = true then _ else [(kC, V.ref l)] ++ [(kM, V.int m)]) = _
    rw [decide_eq_false kne1]
    rfl
  have e3 : putK [(kC, V.ref l), (kM, V.int m)] kD (.int n) = deckO l m n := by
    show (if (decide (kC = kD) || (decide (kM = kD) || false)) = true then _ else [(kC, V.ref l), (kM, V.int m)] ++ [(kD, V.int n)]) = _
    rw [decide_eq_false kne2, decide_eq_false kne3]
    rfl
  show putK (putK (putK [] kC (.ref l)) kM (.int m)) kD (.int n) = _
  rw [e1, e2, e3]

/-- a deck stands at d, its cells at l; it was asked at most c times -/
def Deck (H : Hp) (d l : Addr) (c : Nat) : Prop :=
  ∃ (cs : List Int) (m n : Int), H d = some (.dK (deckO l m n)) ∧ H l = some (.lst (cs.map V.int)) ∧ (0 ≤ m ∧ m < 2147483648) ∧ (0 ≤ n ∧ n ≤ (c : Int)) ∧ cs.length ≤ 63
/-- all stays but the deck and its cells -/
def Kept (d l : Addr) (H H2 : Hp) : Prop := ∀ b o, H b = some o → b ≠ d → b ≠ l → H2 b = some o
theorem Kept.refl (d l : Addr) (H : Hp) : Kept d l H H := fun _ _ e _ _ => e
theorem Kept.trans {d l : Addr} {H H1 H2 : Hp} (a : Kept d l H H1) (b : Kept d l H1 H2) : Kept d l H H2 := fun c o e h1 h2 => b c o (a c o e h1 h2) h1 h2
theorem Kept.of {d l : Addr} {H H1 : Hp} (a : Same H H1) : Kept d l H H1 := fun c o e _ _ => a c o e
theorem Deck.mono {H : Hp} {d l : Addr} {c e : Nat} (D : Deck H d l c) (h : c ≤ e) : Deck H d l e := by
  obtain ⟨cs, m, n, h1, h2, h3, h4, h5⟩ := D
  exact ⟨cs, m, n, h1, h2, h3, ⟨h4.1, by omega⟩, h5⟩
theorem Deck.same {H H1 : Hp} {d l : Addr} {c : Nat} (D : Deck H d l c) (s : Same H H1) : Deck H1 d l c := by
  obtain ⟨cs, m, n, h1, h2, h3⟩ := D
  exact ⟨cs, m, n, s _ _ h1, s _ _ h2, h3⟩
theorem Deck.upd {H : Hp} {d l p : Addr} {c : Nat} {o : HO} (D : Deck H d l c) (hp : H p = none) : Deck (upd H p o) d l c := by
  obtain ⟨cs, m, n, h1, h2, h3⟩ := D
  exact ⟨cs, m, n, by rw [upd_ne (ne_of_none h1 hp)]; exact h1, by rw [upd_ne (ne_of_none h2 hp)]; exact h2, h3⟩
theorem same_new {H : Hp} {p : Addr} {o : HO} (h : H p = none) : Same H (upd H p o) := fun b x e => by
  rw [upd_ne (ne_of_none e h)]
  exact e
/-- tuples stay -/
theorem Kept.tup {K : PySem.W.Frag} {d l : Addr} {H H2 : Hp} {c : Nat} {a : Addr} {xs : List V} (k : Kept d l H H2) (D : Deck H d l c) (h : SqT K H a xs) : SqT K H2 a xs := by
  obtain ⟨cs, m, n, h1, h2, _⟩ := D
  rcases h with (h | ⟨o, h⟩) | h
  · exact .inl (.inl (k _ _ h (ne_of h h1 nofun) (ne_of h h2 nofun)))
  · exact .inl (.inr ⟨o, k _ _ h (ne_of h h1 nofun) (ne_of h h2 nofun)⟩)
  · exact .inr h
theorem sameT {K : PySem.W.Frag} {H H2 : Hp} {a : Addr} {xs : List V} (s : Same H H2) (h : SqT K H a xs) : SqT K H2 a xs := by
  rcases h with (h | ⟨o, h⟩) | h
  · exact .inl (.inl (s _ _ h))
  · exact .inl (.inr ⟨o, s _ _ h⟩)
  · exact .inr h
/-! ### ints as data -/
def dI (ns : List Int) : List PyData := ns.map PyData.int
theorem dpInts {K : PySem.W.Frag} {H : Hp} : ∀ ns : List Int, DpAll K H (ns.map V.int) (dI ns)
  | [] => .nil
  | n :: ns => .cons (.int n) (dpInts ns)
theorem layI : ∀ ns : List Int, PyData.canLayAll0 (dI ns) = true
  | [] => by simp [dI, PyData.canLayAll0]
  | n :: ns => by
    show PyData.canLayAll0 (PyData.int n :: dI ns) = true
    simp [PyData.canLayAll0, PyData.canLay0, layI ns]
theorem depI : ∀ ns : List Int, PyData.depthAll (dI ns) = 0
  | [] => by simp [dI, PyData.depthAll]
  | n :: ns => by
    show PyData.depthAll (PyData.int n :: dI ns) = 0
    simp [PyData.depthAll, PyData.depth, depI ns]
theorem shI (ns : List Int) : SeqAt.shaped (.list (dI ns)) = true := by
  simp [SeqAt.shaped, PyData.canLay0, PyData.depth, layI, depI]
theorem shTI (ns : List Int) : SeqAt.shaped (.tuple (dI ns)) = true := by
  simp [SeqAt.shaped, PyData.canLay0, PyData.depth, layI, depI]
theorem eqvI_nil : ∀ ns : List Int, PyData.eqv (.list (dI ns)) (.list []) = ns.isEmpty
  | [] => by simp [dI, PyData.eqv, PyData.eqvAll]
  | n :: ns => by
    show PyData.eqv (.list (PyData.int n :: dI ns)) (.list []) = false
    simp [PyData.eqv, PyData.eqvAll]
theorem dgCells {H : Hp} {d l : Addr} {m n : Int} (h : H d = some (.dK (deckO l m n))) : DGet H d (.str "cells") (some (.ref l)) := by
  have z := DGet.k (k := kC) h
  rw [deck_cells] at z
  exact z
theorem dgMixed {H : Hp} {d l : Addr} {m n : Int} (h : H d = some (.dK (deckO l m n))) : DGet H d (.str "mixed") (some (.int m)) := by
  have z := DGet.k (k := kM) h
  rw [deck_mixed] at z
  exact z
theorem dgDraws {H : Hp} {d l : Addr} {m n : Int} (h : H d = some (.dK (deckO l m n))) : DGet H d (.str "draws") (some (.int n)) := by
  have z := DGet.k (k := kD) h
  rw [deck_draws] at z
  exact z
theorem dpDraws {H : Hp} {d l : Addr} {m n : Int} (k : Int) (h : H d = some (.dK (deckO l m n))) : DPut H d (.str "draws") (.int k) (upd H d (.dK (deckO l m k))) := by
  have z := DPut.k (k := kD) (v := .int k) h (by show 3 < sizeLine; decide)
  rw [deck_put] at z
  exact z
theorem ifT {b : Bool} {A B : Prop} (h : b = true) (a : A) : if b = true then A else B := by
  rw [if_pos h]
  exact a
theorem ifF {b : Bool} {A B : Prop} (h : b = false) (a : B) : if b = true then A else B := by
  rw [h]
  exact iteF a
theorem mod_lo {a b : Int} (h : 0 < b) : 0 ≤ a % b := Int.emod_nonneg a (by omega)
theorem mod_hi {a b : Int} (h : 0 < b) : a % b < b := Int.emod_lt_of_pos a h
end SG

namespace SG
open PySem PySem.Spec PyProof.Rows L2

theorem Kept.lst {K : PySem.W.Frag} {d l : Addr} {H H2 : Hp} {c : Nat} {a : Addr} {xs : List V} (k : Kept d l H H2) (D : Deck H d l c) (hl : a ≠ l) (h : SqL K H a xs) : SqL K H2 a xs := by
  obtain ⟨cs, m, n, h1, h2, _⟩ := D
  rcases h with (h | ⟨o, h⟩) | h
  · exact .inl (.inl (k _ _ h (ne_of h h1 nofun) hl))
  · exact .inl (.inr ⟨o, k _ _ h (ne_of h h1 nofun) hl⟩)
  · exact .inr h
theorem Deck.ne {H : Hp} {d l p : Addr} {c : Nat} (D : Deck H d l c) (h : H p = none) : p ≠ d ∧ p ≠ l := by
  obtain ⟨cs, m, n, h1, h2, _⟩ := D
  exact ⟨(ne_of_none h1 h).symm, (ne_of_none h2 h).symm⟩
theorem wipe1 (σ : L2.St) (s : Nat) (x : Option V) : wipe ((wipe σ [s]).set s x) [s] = wipe σ [s] := by
  show (List.set (List.set (List.set σ s none) s x) s none) = List.set σ s none
  rw [List.set_set, List.set_set]
theorem yesI {A B : Hp → Prop} {σ : L2.St} {H : Hp} (h : A H) : tYes σ H (fun b H4 => if b = true then A H4 else B H4) := by
  show (if (true : Bool) = true then A H else B H)
  rw [if_pos rfl]
  exact h
/-- a list of ints that are drawn, turn by turn -/
theorem lc_draws {d l D : Addr} {c n s : Nat} {te : TE} {σ : L2.St} {H1 : Hp} {Qd : Hp → Prop} {B : Int → Prop} (D0 : Deck H1 d l c) (hD : H1 D = none) (hn : n ≤ 1000)
    (turn : ∀ (i : Nat) (H2 : Hp), i < n → Deck H2 d l (c + i) → Kept d l H1 H2 → ∀ R : VK, (∀ (x : Int) (H3 : Hp), B x → Deck H3 d l (c + i + 1) → Kept d l H2 H3 → R (.int x) H3) → te ((wipe σ [s]).set s (some (.int (0 + i)))) H2 R)
    (done : ∀ (xs : List Int) (H2 : Hp), xs.length = n → (∀ x ∈ xs, B x) → H2 D = some (.lst (xs.map V.int)) → Deck H2 d l (c + n) → Kept d l H1 H2 → Qd H2) :
    ∃ W : Nat → Nat → Hp → Prop, (∃ m, W 0 m (upd H1 D (.lst []))) ∧ ∀ i m H, W i m H →
      ((Itr 0 n).stop i H ∧ Qd H) ∨ ((Itr 0 n).go i H ∧ ∃ Nx : Hp → Prop, (∀ H2, Nx H2 → ∃ m2, m2 < m ∧ W (i + 1) m2 H2) ∧ ∀ x H2, (Itr 0 n).yld i H x H2 → gName s x (wipe σ [s]) H2 fun σ2 H3 => wipe σ2 [s] = wipe σ [s] ∧ tYes σ2 H3 fun b H4 =>
        if b = true then te σ2 H4 fun y H5 => ∃ acc, H5 D = some (.lst acc) ∧ acc.length < sizeLine ∧ Nx (upd H5 D (.lst (acc ++ [y]))) else Nx H4) := by
  obtain ⟨nd, nl⟩ := D0.ne hD
  refine lc_range (fun i H2 => ∃ xs : List Int, xs.length = i ∧ (∀ x ∈ xs, B x) ∧ H2 D = some (.lst (xs.map V.int)) ∧ Deck H2 d l (c + i) ∧ Kept d l H1 H2) ?_ ?_ ?_
  · exact ⟨[], rfl, (fun _ h => absurd h List.not_mem_nil), upd_same, D0.upd hD, .of (same_new hD)⟩
  · rintro i H2 hi ⟨xs, hx, hB, hD2, D2, k2⟩
    refine ⟨wipe1 _ _ _, ?_⟩
    refine yesI ?_
    refine turn i H2 hi D2 k2 _ fun x H3 hb D3 k3 => ⟨xs.map V.int, k3 _ _ hD2 nd nl, ?_, xs ++ [x], by simp [hx], fun y hy => ?_, ?_, ?_, ?_⟩
    · rw [List.length_map, hx]
      exact small1000 (by omega)
    · rcases List.mem_append.mp hy with h | h
      · exact hB y h
      · rw [List.mem_singleton.mp h]; exact hb
    · rw [upd_same, List.map_append]
      rfl
    · obtain ⟨cs, m, k, h1, h2, h3⟩ := D3
      exact ⟨cs, m, k, by rw [upd_ne nd.symm]; exact h1, by rw [upd_ne nl.symm]; exact h2, h3⟩
    · intro b o e h1 h2
      rw [upd_ne (ne_of_none e hD)]
      exact k3 _ _ (k2 _ _ e h1 h2) h1 h2
  · rintro H2 ⟨xs, hx, hB, hD2, D2, k2⟩
    exact done xs H2 hx hB hD2 D2 k2
end SG

namespace SG
open PySem PySem.Spec PyProof.Rows L2

/-- a comprehension over enumerate of a tuple -/
theorem lc_enumT {K : PySem.W.Frag} {a D : Addr} {xs : List V} {g : TG} {tt : TT} {te : TE} {vs : List Nat} {σ : L2.St} {H1 : Hp} {Qd : Hp → Prop} (Pv : Nat → Hp → Prop) (h0 : Pv 0 (upd H1 D (.lst []))) (hl : ∀ i H, i ≤ xs.length → Pv i H → SqT K H a xs)
    (hs : ∀ (i : Nat) (x : V) (H : Hp) (T : Addr), xs[i]? = some x → Pv i H → H T = none → g (.ref T) (wipe σ vs) (upd H T (.tup [.int (i : Nat), x])) fun σ2 H2 => wipe σ2 vs = wipe σ vs ∧ tt σ2 H2 fun b H3 =>
      if b = true then te σ2 H3 fun y H4 => ∃ acc, H4 D = some (.lst acc) ∧ acc.length < sizeLine ∧ Pv (i + 1) (upd H4 D (.lst (acc ++ [y]))) else Pv (i + 1) H3) (hd : ∀ H, Pv xs.length H → Qd H) :
    ∃ W : Nat → Nat → Hp → Prop, (∃ m, W 0 m (upd H1 D (.lst []))) ∧ ∀ i m H, W i m H →
      ((IteT K a).stop i H ∧ Qd H) ∨ ((IteT K a).go i H ∧ ∃ Nx : Hp → Prop, (∀ H2, Nx H2 → ∃ m2, m2 < m ∧ W (i + 1) m2 H2) ∧ ∀ x H2, (IteT K a).yld i H x H2 → g x (wipe σ vs) H2 fun σ2 H3 => wipe σ2 vs = wipe σ vs ∧ tt σ2 H3 fun b H4 =>
        if b = true then te σ2 H4 fun y H5 => ∃ acc, H5 D = some (.lst acc) ∧ acc.length < sizeLine ∧ Nx (upd H5 D (.lst (acc ++ [y]))) else Nx H4) := by
  refine ⟨fun i m H => m = xs.length - i ∧ i ≤ xs.length ∧ Pv i H, ⟨xs.length, by simp, Nat.zero_le _, h0⟩, ?_⟩
  rintro i m H ⟨rfl, hi, p⟩
  have q := hl i H hi p
  rcases Nat.lt_or_eq_of_le hi with hlt | rfl
  · refine .inr ⟨⟨xs, xs[i], q, by simp [hlt]⟩, Pv (i + 1), fun H2 p2 => ⟨xs.length - (i + 1), by omega, rfl, hlt, p2⟩, ?_⟩
    rintro x H2 ⟨T, x, rfl, hT, rfl, hx⟩
    exact hs i x H T (hx xs q) p hT
  · exact .inl ⟨⟨xs, q, Nat.le_refl _⟩, hd H p⟩
theorem wipe2 (σ : L2.St) (s1 s2 : Nat) (x y : Option V) : wipe (((wipe σ [s1, s2]).set s1 x).set s2 y) [s1, s2] = wipe σ [s1, s2] := by
  show List.set (List.set (List.set (List.set (List.set (List.set σ s2 none) s1 none) s1 x) s2 y) s2 none) s1 none = List.set (List.set σ s2 none) s1 none
  by_cases e : s1 = s2
  · subst e
    simp [List.set_set]
  · have z1 : List.set (List.set (List.set (List.set σ s2 none) s1 none) s1 x) s2 y = List.set (List.set (List.set σ s2 none) s1 x) s2 y := by rw [List.set_set]
    rw [z1]
    refine List.ext_getElem? fun i => ?_
    simp only [List.getElem?_set, List.length_set]
    split <;> split <;> rfl
  -- rw [List.set_set, List.set_comm x none e, List.set_set, List.set_comm none none (Ne.symm e), List.set_set]
theorem same_upd_of {H H2 : Hp} {p : Addr} {o : HO} (s : Same H H2) (h : H p = none) : Same H (upd H2 p o) := fun b x e => by
  rw [upd_ne (ne_of_none e h)]
  exact s _ _ e
/-- .. whose items are told ahead, and that makes new objects alone -/
theorem lc_enumS {K : PySem.W.Frag} {a D : Addr} {xs ys : List V} {te : TE} {s1 s2 : Nat} {σ : L2.St} {H1 : Hp} {Qd : Hp → Prop} (hn : xs.length ≤ 1000) (hD : H1 D = none) (hS : SqT K H1 a xs) (hy : ys.length = xs.length)
    (turn : ∀ (i : Nat) (x y : V) (H2 : Hp), xs[i]? = some x → ys[i]? = some y → Same H1 H2 → ∀ R : VK, (∀ H3, Same H2 H3 → R y H3) → te (((wipe σ [s1, s2]).set s1 (some (.int (i : Nat)))).set s2 (some x)) H2 R)
    (done : ∀ H2, Same H1 H2 → H2 D = some (.lst ys) → Qd H2) :
    ∃ W : Nat → Nat → Hp → Prop, (∃ m, W 0 m (upd H1 D (.lst []))) ∧ ∀ i m H, W i m H →
      ((IteT K a).stop i H ∧ Qd H) ∨ ((IteT K a).go i H ∧ ∃ Nx : Hp → Prop, (∀ H2, Nx H2 → ∃ m2, m2 < m ∧ W (i + 1) m2 H2) ∧ ∀ x H2, (IteT K a).yld i H x H2 → gTup K 2 (gCons (gName s1) (gCons (gName s2) gNil)) x (wipe σ [s1, s2]) H2 fun σ2 H3 => wipe σ2 [s1, s2] = wipe σ [s1, s2] ∧ tYes σ2 H3 fun b H4 =>
        if b = true then te σ2 H4 fun y H5 => ∃ acc, H5 D = some (.lst acc) ∧ acc.length < sizeLine ∧ Nx (upd H5 D (.lst (acc ++ [y]))) else Nx H4) := by
  refine lc_enumT (xs := xs) (fun i H2 => Same H1 H2 ∧ H2 D = some (.lst (ys.take i))) ⟨same_new hD, by rw [upd_same, List.take_zero]⟩ (fun i H2 _ p => sameT p.1 hS) ?_ ?_
  · rintro i x H2 T hx ⟨s, h2⟩ hT
    have hi : i < ys.length := by rw [hy]; exact (List.getElem?_eq_some_iff.mp hx).1
    have hyi : ys[i]? = some ys[i] := List.getElem?_eq_getElem hi
    refine ⟨T, _, rfl, .inl (.inl upd_same), rfl, _, _, rfl, _, _, rfl, rfl, wipe2 _ _ _ _ _, ?_⟩
    refine yesI ?_
    have s1 : Same H1 (upd H2 T (.tup [.int (i : Nat), x])) := s.trans (same_new hT)
    have hD2 : (upd H2 T (.tup [.int (i : Nat), x])) D = some (.lst (ys.take i)) := same_new hT _ _ h2
    refine turn i x _ _ hx hyi s1 _ fun H3 s3 => ⟨ys.take i, s3 _ _ hD2, ?_, same_upd_of (s1.trans s3) hD, ?_⟩
    · rw [List.length_take]
      exact small1000 (by omega)
    · rw [upd_same, List.take_add_one, hyi]
      rfl
  · rintro H2 ⟨s, h2⟩
    refine done H2 s ?_
    rw [h2, ← hy, List.take_length]
end SG

namespace SG
open PySem PySem.Spec PyProof.Rows L2
/-- a comprehension over a tuple, whose items are told ahead, and that makes new objects alone -/
theorem lc_tupS {K : PySem.W.Frag} {a D : Addr} {xs ys : List V} {te : TE} {s : Nat} {σ : L2.St} {H1 : Hp} {Qd : Hp → Prop} (hn : xs.length ≤ 1000) (hD : H1 D = none) (hS : SqT K H1 a xs) (hy : ys.length = xs.length)
    (turn : ∀ (i : Nat) (x y : V) (H2 : Hp), xs[i]? = some x → ys[i]? = some y → Same H1 H2 → ∀ R : VK, (∀ H3, Same H2 H3 → R y H3) → te ((wipe σ [s]).set s (some x)) H2 R)
    (done : ∀ H2, Same H1 H2 → H2 D = some (.lst ys) → Qd H2) :
    ∃ W : Nat → Nat → Hp → Prop, (∃ m, W 0 m (upd H1 D (.lst []))) ∧ ∀ i m H, W i m H →
      ((Itt K a).stop i H ∧ Qd H) ∨ ((Itt K a).go i H ∧ ∃ Nx : Hp → Prop, (∀ H2, Nx H2 → ∃ m2, m2 < m ∧ W (i + 1) m2 H2) ∧ ∀ x H2, (Itt K a).yld i H x H2 → gName s x (wipe σ [s]) H2 fun σ2 H3 => wipe σ2 [s] = wipe σ [s] ∧ tYes σ2 H3 fun b H4 =>
        if b = true then te σ2 H4 fun y H5 => ∃ acc, H5 D = some (.lst acc) ∧ acc.length < sizeLine ∧ Nx (upd H5 D (.lst (acc ++ [y]))) else Nx H4) := by
  refine lc_tup (xs := xs) (fun i H2 => Same H1 H2 ∧ H2 D = some (.lst (ys.take i))) ⟨same_new hD, by rw [upd_same, List.take_zero]⟩ (fun i H2 _ p => sameT p.1 hS) ?_ ?_
  · rintro i x H2 hx ⟨sm, h2⟩
    have hi : i < ys.length := by rw [hy]; exact (List.getElem?_eq_some_iff.mp hx).1
    have hyi : ys[i]? = some ys[i] := List.getElem?_eq_getElem hi
    refine ⟨wipe1 _ _ _, ?_⟩
    refine yesI ?_
    refine turn i x _ _ hx hyi sm _ fun H3 s3 => ⟨ys.take i, s3 _ _ h2, ?_, same_upd_of (sm.trans s3) hD, ?_⟩
    · rw [List.length_take]
      exact small1000 (by omega)
    · rw [upd_same, List.take_add_one, hyi]
      rfl
  · rintro H2 ⟨sm, h2⟩
    refine done H2 sm ?_
    rw [h2, ← hy, List.take_length]
/-- the same over a list -/
theorem lc_listS {K : PySem.W.Frag} {a D : Addr} {xs ys : List V} {te : TE} {s : Nat} {σ : L2.St} {H1 : Hp} {Qd : Hp → Prop} (hn : xs.length ≤ 1000) (hD : H1 D = none) (hS : SqL K H1 a xs) (hy : ys.length = xs.length)
    (turn : ∀ (i : Nat) (x y : V) (H2 : Hp), xs[i]? = some x → ys[i]? = some y → Same H1 H2 → ∀ R : VK, (∀ H3, Same H2 H3 → R y H3) → te ((wipe σ [s]).set s (some x)) H2 R)
    (done : ∀ H2, Same H1 H2 → H2 D = some (.lst ys) → Qd H2) :
    ∃ W : Nat → Nat → Hp → Prop, (∃ m, W 0 m (upd H1 D (.lst []))) ∧ ∀ i m H, W i m H →
      ((Itl K a).stop i H ∧ Qd H) ∨ ((Itl K a).go i H ∧ ∃ Nx : Hp → Prop, (∀ H2, Nx H2 → ∃ m2, m2 < m ∧ W (i + 1) m2 H2) ∧ ∀ x H2, (Itl K a).yld i H x H2 → gName s x (wipe σ [s]) H2 fun σ2 H3 => wipe σ2 [s] = wipe σ [s] ∧ tYes σ2 H3 fun b H4 =>
        if b = true then te σ2 H4 fun y H5 => ∃ acc, H5 D = some (.lst acc) ∧ acc.length < sizeLine ∧ Nx (upd H5 D (.lst (acc ++ [y]))) else Nx H4) := by
  refine lc_list (xs := xs) (fun i H2 => Same H1 H2 ∧ H2 D = some (.lst (ys.take i))) ⟨same_new hD, by rw [upd_same, List.take_zero]⟩ (fun i H2 _ p => p.1.seq hS) ?_ ?_
  · rintro i x H2 hx ⟨sm, h2⟩
    have hi : i < ys.length := by rw [hy]; exact (List.getElem?_eq_some_iff.mp hx).1
    have hyi : ys[i]? = some ys[i] := List.getElem?_eq_getElem hi
    refine ⟨wipe1 _ _ _, ?_⟩
    refine yesI ?_
    refine turn i x _ _ hx hyi sm _ fun H3 s3 => ⟨ys.take i, s3 _ _ h2, ?_, same_upd_of (sm.trans s3) hD, ?_⟩
    · rw [List.length_take]
      exact small1000 (by omega)
    · rw [upd_same, List.take_add_one, hyi]
      rfl
  · rintro H2 ⟨sm, h2⟩
    refine done H2 sm ?_
    rw [h2, ← hy, List.take_length]
/-- the same over a list, its target a pair -/
theorem lc_listP {K : PySem.W.Frag} {a D : Addr} {xs ys : List V} {te : TE} {s1 s2 : Nat} {σ : L2.St} {H1 : Hp} {Qd : Hp → Prop} (hn : xs.length ≤ 1000) (hD : H1 D = none) (hS : SqL K H1 a xs) (hy : ys.length = xs.length)
    (turn : ∀ (i : Nat) (x y : V) (H2 : Hp), xs[i]? = some x → ys[i]? = some y → Same H1 H2 → ∃ p u v, x = .ref p ∧ SqT K H2 p [u, v] ∧ ∀ R : VK, (∀ H3, Same H2 H3 → R y H3) → te (((wipe σ [s1, s2]).set s1 (some u)).set s2 (some v)) H2 R)
    (done : ∀ H2, Same H1 H2 → H2 D = some (.lst ys) → Qd H2) :
    ∃ W : Nat → Nat → Hp → Prop, (∃ m, W 0 m (upd H1 D (.lst []))) ∧ ∀ i m H, W i m H →
      ((Itl K a).stop i H ∧ Qd H) ∨ ((Itl K a).go i H ∧ ∃ Nx : Hp → Prop, (∀ H2, Nx H2 → ∃ m2, m2 < m ∧ W (i + 1) m2 H2) ∧ ∀ x H2, (Itl K a).yld i H x H2 → gTup K 2 (gCons (gName s1) (gCons (gName s2) gNil)) x (wipe σ [s1, s2]) H2 fun σ2 H3 => wipe σ2 [s1, s2] = wipe σ [s1, s2] ∧ tYes σ2 H3 fun b H4 =>
        if b = true then te σ2 H4 fun y H5 => ∃ acc, H5 D = some (.lst acc) ∧ acc.length < sizeLine ∧ Nx (upd H5 D (.lst (acc ++ [y]))) else Nx H4) := by
  refine lc_list (xs := xs) (fun i H2 => Same H1 H2 ∧ H2 D = some (.lst (ys.take i))) ⟨same_new hD, by rw [upd_same, List.take_zero]⟩ (fun i H2 _ p => p.1.seq hS) ?_ ?_
  · rintro i x H2 hx ⟨sm, h2⟩
    have hi : i < ys.length := by rw [hy]; exact (List.getElem?_eq_some_iff.mp hx).1
    have hyi : ys[i]? = some ys[i] := List.getElem?_eq_getElem hi
    obtain ⟨p, u, v, rfl, hp, tn⟩ := turn i x _ _ hx hyi sm
    refine ⟨p, _, rfl, hp, rfl, _, _, rfl, _, _, rfl, rfl, wipe2 _ _ _ _ _, ?_⟩
    refine yesI ?_
    refine tn _ fun H3 s3 => ⟨ys.take i, s3 _ _ h2, ?_, same_upd_of (sm.trans s3) hD, ?_⟩
    · rw [List.length_take]
      exact small1000 (by omega)
    · rw [upd_same, List.take_add_one, hyi]
      rfl
  · rintro H2 ⟨sm, h2⟩
    refine done H2 sm ?_
    rw [h2, ← hy, List.take_length]
end SG

/-! The rules that speak of the written part, with it as a letter: so they serve in a comprehension too. -/
namespace SG
open PySem PySem.Spec PyProof.Rows L2
section
variable {X : Cx} {K : PySem.W.Frag}
def rLenS (K : PySem.W.Frag) : List V → Hp → VK → Prop := fun xs H Q => ∃ p ys, xs = [.ref p] ∧ (SqL K H p ys ∨ SqT K H p ys) ∧ Q (.int ys.length) H
def rListOf (K : PySem.W.Frag) : List V → Hp → VK → Prop := fun xs H Q => ∃ p ys, xs = [.ref p] ∧ (SqL K H p ys ∨ SqT K H p ys) ∧ ∀ l, H l = none → Q (.ref l) (upd H l (.lst ys))
def rTupOf (K : PySem.W.Frag) : List V → Hp → VK → Prop := fun xs H Q => ∃ p ys, xs = [.ref p] ∧ ((SqL K H p ys ∧ ∀ l, H l = none → Q (.ref l) (upd H l (.tup ys))) ∨ (SqT K H p ys ∧ Q (.ref p) H))
theorem k_len (e : X.K = K := by rfl) : CallR X (.builtin "len") (rLenS K) := e ▸ call_len_seq
theorem k_listOf (e : X.K = K := by rfl) : CallR X (.type "list") (rListOf K) := e ▸ call_list_of
theorem k_tupOf (e : X.K = K := by rfl) : CallR X (.type "tuple") (rTupOf K) := e ▸ call_tuple_of
theorem k_sum (hc : X.calm = true) (e : X.K = K := by rfl) : CallR X (.builtin "sum") (rSum K) := e ▸ cr_sum hc
theorem k_all (hc : X.calm = true) (e : X.K = K := by rfl) : CallR X (.builtin "all") (rAll K) := e ▸ cr_all hc
theorem k_any (hc : X.calm = true) (e : X.K = K := by rfl) : CallR X (.builtin "any") (rAny K) := e ▸ cr_any hc
theorem k_isi (e : X.K = K := by rfl) : CallR X (.builtin "isinstance") (rIsi K) := e ▸ call_isi
theorem k_repr {k : Nat} (hn : X.base.NoDigits) (hg : X.A.guards = some []) (hr : Room k X.A) (e : X.K = K := by rfl) : CallR X (.builtin "repr") (rRepr K) := e ▸ call_reprG hn hg hr
theorem k_ixL (e : X.K = K := by rfl) : IxR X (rIxL K) := e ▸ ix_list
theorem k_ixT (e : X.K = K := by rfl) : IxR X (rIxT K) := e ▸ ix_tup
theorem k_ix (e : X.K = K := by rfl) : IxR X (rIx K) := e ▸ ix_seq
theorem k_slL (e : X.K = K := by rfl) : SlR X (rSlL K) := e ▸ sl_list
theorem k_slT (e : X.K = K := by rfl) : SlR X (rSlA K) := e ▸ sl_tupA
theorem k_catT (e : X.K = K := by rfl) : OpR X (binaryOp .Add) (rCatA K) := e ▸ op_catA
theorem k_eqD (hu : X.A.units + 64 < cLine) (e : X.K = K := by rfl) : OpR X (compareOp .Eq) (rEqD K) := e ▸ op_eqD hu
theorem k_neD (hu : X.A.units + 64 < cLine) (e : X.K = K := by rfl) : OpR X (compareOp .NotEq) (rNeD K) := e ▸ op_neD hu
theorem k_rev {x : Expr} {k} {p1 p2 p3 pos : Pos} {te : TE} (he : PE X x te) (e : X.K = K := by rfl) : PE X (.Subscript x (.Slice none none (some (.UnaryOp .USub (.Constant (.int 1) k p1) p2)) p3) pos) (tRevL K te) := e ▸ pe_revL he
theorem k_tg {es : List Expr} {k : Nat} {t : TGs} {n : Nat} {pos : Pos} (hc : X.calm = true) (h : PGs X es t) (hn : (assignEach es X.env).length = n := by rfl) (hst : (assignEach es X.env).findIdx? (·.1) = none := by rfl) (e : X.K = K := by rfl) : PG X (.Tuple es k pos) (gTup K n t) := e ▸ pg_tup hc h hn hst
theorem k_enumT {x : Expr} {ta : TA} {p pos tpos : Pos} {elts : List Expr} {kk : Nat} (hg : Gl X "enumerate") (hm : X.mg "enumerate" = none) (ha : PA X [x] ta) (hs : starEach [x] X.env = [(false, eval x X.env)] := by rfl) (e : X.K = K := by rfl) :
    PI X (.Tuple elts kk tpos) (.Call (.Name "enumerate" p) [x] [] pos) (iEnumT K ta) := e ▸ pi_enumT hg hm ha hs
theorem k_enum {x : Expr} {ta : TA} {p pos tpos : Pos} {elts : List Expr} {kk : Nat} (hg : Gl X "enumerate") (hm : X.mg "enumerate" = none) (ha : PA X [x] ta) (hs : starEach [x] X.env = [(false, eval x X.env)] := by rfl) (e : X.K = K := by rfl) :
    PI X (.Tuple elts kk tpos) (.Call (.Name "enumerate" p) [x] [] pos) (iEnum K ta) := e ▸ pi_enum hg hm ha hs
end
end SG

/-! Own exception classes of any line of own classes over Exception: made with one value that their __init__ stores, raised. -/
namespace SG
open PySem PySem.Spec PyProof.Rows L2
section
open PySem.HandSPX Builtin Builtin.ObjectAttr
abbrev exEnd : List Value := [.type "Exception", .type "BaseException", .type "object"]
/-- own classes, behind them those of Exception -/
def OverEx (l : List Value) : Prop := ∃ cs : List Addr, l = cs.map Value.ref ++ exEnd
theorem OverEx.more {l : List Value} (c : Addr) (h : OverEx l) : OverEx (.ref c :: l) := by
  obtain ⟨cs, rfl⟩ := h
  exact ⟨c :: cs, rfl⟩
theorem OverEx.has {l : List Value} (h : OverEx l) (T : String) : l.contains (.type T) = exEnd.contains (.type T) := by
  obtain ⟨cs, rfl⟩ := h
  induction cs with
  | nil => rfl
  | cons c r ih =>
    rw [List.map_cons, List.cons_append, List.contains_cons, ih]
    rfl
theorem OverEx.through {l : List Value} (h : OverEx l) (x : Value) : refuseLoop x "__setattr__" l = pure () := by
  obtain ⟨cs, rfl⟩ := h
  induction cs with
  | nil => exact F.store_Exception.passes x
  | cons c r ih => rw [List.map_cons, List.cons_append, refuseLoop_ref, ih]
theorem OverEx.some {l : List Value} (h : OverEx l) : l.isEmpty = false := by
  obtain ⟨cs, rfl⟩ := h
  cases cs <;> rfl
variable {prog : Program} {w : World} {A : Around} {R : Result → Shared → Prop} {hp : Heap} {g : Array GenState} {d : Drawn} {t : Nat} {os : OsState}
/-- the first store to such an exception -/
theorem first_store {K : W.Frag} {name : Str} {tk : Tok} {v : Value} {x C : Addr} {fv : Array Value} {cd : ClassData} (X : K.In hp)
    (hx : hp.get? x = some { cls := .ref C, data := .fields fv }) (hcd : W.clsIn K C = some cd) (hm : OverEx cd.mro)
    (hh : cd.hasDict = true) (ha : W.findIn K (.ref C) name = some none)
    (hq : ∀ h2 t2 dx, (∀ b o, b ≠ x → hp.get? b = some o → h2.get? b = some o) → hp.objs.size ≤ dx → dx ≠ x → h2.get? x = some { cls := .ref C, dict := some dx, data := .fields fv } →
      h2.Ns1 dx (fun y => if y = name then some v else none) → R (.ok (.ret .none)) ⟨h2, g, d, t2, os⟩) :
    codeAny (model prog w) A (.call (.builtin "object.__setattr__") ⟨[.ref x, .str name tk, v], []⟩) R ⟨hp, g, d, t, os⟩ := by
  have J : W.InstAt hp x { cls := .ref C, data := .fields fv } C none := ⟨hx, rfl, rfl, trivial⟩
  have S1 := F.store_object
  have xs : x ≠ hp.objs.size := Nat.ne_of_lt (Heap.lt_size hx)
  have ho : cd.mro.contains (.type "object") = true := by
    rw [hm.has]
    decide +kernel
  have sb : W.Looks (model prog w) hp (isInstance (.ref x) (.type "object")) true := J.type.andThen (W.looks_mroIn X (by
    unfold W.mroIn
    rw [hcd, Option.bind_some, if_neg (by rw [hm.some]; decide), ho]))
  refine codeAny_call_builtin S1.slot.plain S1.entry ?_
  refine @W.check_slot (model prog w) _ _ ⟨hp, g, d, t, os⟩ "object.__setattr__" "object" "__setattr__" (.ref x) [.str name tk, v] [] _ S1.kind S1.split sb (S1.args (.ref x) (.str name tk) v) ?_
  have L1 : W.Looks (model prog w) hp (mroOf (.ref C)) cd.mro := (W.looks_clsIn X hcd).andThen .now
  have L2 : W.Looks (model prog w) hp (storeTaker? none) none := .now
  have L3 : W.Looks (model prog w) hp (classData C) cd := W.looks_clsIn X hcd
  rw [W.osa_eq, refuse_eq]
  refine wpAny_bind (wpAny_bind (J.type.at (wpAny_bind (L1.at ?_))))
  rw [hm.through]
  refine wpAny_pure (wpAny_bind (J.type.at (wpAny_bind ((W.looks_findIn X ha).at (wpAny_bind (L2.at ?_))))))
  show wpAny _ _ (storeInOwnDict (.ref x) (.ref C) (.str name tk) name v false) _ _ _
  obtain ⟨c1, c2, c3, c4, c5, c6, c7, c8, c9, c10, c11⟩ := cd
  dsimp only at hh
  subst hh
  unfold storeInOwnDict ownDictForStores
  repeat (first | with_reducible refine store_in_new ?_ ?_ | with_reducible refine wpAny_loadPart_at hx ?_ | with_reducible refine L3.at ?_ | wp_step)
  · exact ⟨_, #[], _, (Heap.get?_update_ne _ _ _ _ xs.symm).trans (Heap.get?_push_at rfl rfl), rfl, fun e z => absurd z (by simp), fun _ => rfl⟩
  · intro h2 t2 hn hs
    have hx2 : (hp.push { cls := .type "dict", data := .dict #[] }).get? x = some { cls := .ref C, data := .fields fv } := Heap.get?_push_of_some _ hx
    refine hq h2 t2 hp.objs.size (fun b o hb z => ?_) (Nat.le_refl _) xs.symm ?_ hn
    · exact (hs.2 b (Nat.ne_of_lt (Heap.lt_size z))).trans ((Heap.get?_update_ne _ _ _ _ hb).trans (Heap.get?_push_of_some _ z))
    · exact (hs.2 x xs).trans (Heap.get?_update_self _ hx2 rfl)
end

/-- what the written part says of such a class -/
structure OwnX (K : PySem.W.Frag) (C : Addr) : Prop where
  cls : ∃ nm q N bs bm sn sub ab col dd k0 k1 k2 k3 k5, K.lookup C = some (excClassObj nm q C N bs bm true sn sub ab col dd k0 k1 k2 k3 k5 "Exception.__new__") ∧ OverEx bm
  sa : PySem.W.findIn K (.ref C) "__setattr__" = some (some (.builtin "object.__setattr__"))
  exC : PySem.W.subIn K (.ref C) (.type "BaseException") = some true
  tyC : PySem.W.typeIn K (.ref C) = some (.type "type")
  kC : PySem.W.keepIn K (.ref C) = true
section
variable {X : Cx} {pins : List (Addr × Obj)} {σ : L2.St} {H : Hp} {s : Shared} {a C : Addr} {f : Str} {y : V} {u : Value} {Q : Unit → Shared → Prop} {E : Value → Shared → Prop} {A : Around}
/-- self.f = y, self an exception that is being made and has no attribute as yet -/
theorem one_stored (T : OwnX X.K C) (I : Inv X pins σ H s) (e : H a = some (exo a C none)) (hno : PySem.W.findIn X.K (.ref C) f = some none) (ry : RelV y u)
    (h : ∀ dx s2, H dx = none → dx ≠ a → Inv X pins σ (upd (upd H dx (exd dx [(f, y)])) a (exo a C (some dx))) s2 → Q () s2) : wpAny (model X.prog X.w) A (setAttr (.ref a) f u) Q E s := by
  obtain ⟨nm, q, N, bs, bm, sn, sub, ab, col, dd, k0, k1, k2, k3, k5, hC, hb⟩ := T.cls
  have hc : PySem.W.clsIn X.K C = some { name := nm, bases := bs, mro := .ref C :: bm, ns := N, qualname := q, hasDict := true, slotNames := sn, subclasses := sub, abstract := ab, collection := col, hasDel := false } := by
    unfold PySem.W.clsIn
    rw [hC] <;> rfl
  obtain ⟨t1, ho⟩ := exo_at I.hok e
  obtain ⟨hp, g, d, t, os⟩ := s
  refine PySem.W.set_plain I.kIn (ox := { cls := .ref C, dict := none, data := .fields #[.ref t1, .none, .none, .none, .bool false, .none] }) (od := none) ⟨ho, rfl, rfl, trivial⟩ T.sa ?_
  refine first_store I.kIn ho hc (hb.more C) rfl hno (fun h2 t2 dx k dn dne hx hn => ?_)
  have hnd : H dx = none := I.hok.fresh dn
  have nd : ∀ {b : Addr} {o : Obj}, hp.get? b = some o → b ≠ dx := fun {b o} q => Nat.ne_of_lt (Nat.lt_of_lt_of_le (Heap.lt_size q) dn)
  have na : ∀ {b : Addr}, H b = none → b ≠ a := fun {b} n z => by
    rw [z, e] at n
    cases n
  refine h dx _ hnd dne (I.un (t' := t2) (Un.mk (fun b o q n _ _ => k b o (na n) q) (fun b o q n _ _ => ⟨o.slots, k b o (na n) q⟩) (fun b o q n _ => ?_) (fun b o q _ => ?_) (fun b xs q => ?_) (fun b o v q => ?_) fun b ps q => ⟨#[], ?_⟩) fun b o q => ?_)
  · rw [upd_ne (na n), upd_ne (nd q)]; exact n
  · by_cases hb : b = a
    · exact ⟨_, hb ▸ hx⟩
    · exact ⟨o, k b o hb q⟩
  · rw [upd_ne (at_ne e q exo_tup), upd_ne (ne_of_none q hnd)]; exact q
  · rw [upd_ne (at_ne e q exo_frz), upd_ne (ne_of_none q hnd)]; exact q
  · rw [upd_ne (at_ne e q exo_tbl), upd_ne (ne_of_none q hnd), q]; simp
  · by_cases hb : b = a
    · subst hb
      cases upd_same.symm.trans q
      exact exo_ok hx
    · rw [upd_ne hb] at q
      by_cases hd : b = dx
      · subst hd
        cases upd_same.symm.trans q
        exact exd_ok hn (relO_put (fs := []) ry fun g => True.intro)
      · rw [upd_ne hd] at q
        refine (I.hok b o q).stay (fun c v hc z => k c v ?_ z) (fun c hc => ?_) (fun c xs hc => ?_)
        · rcases hc with hc | hc
          · exact hc ▸ hb
          · exact at_ne e hc exo_own
        · rw [upd_ne (at_ne e hc exo_own), upd_ne (ne_of_none hc hnd)]; exact hc
        · rw [upd_ne (at_ne e hc exo_tup), upd_ne (ne_of_none hc hnd)]; exact hc
end
/-- self.f = e in the __init__ of such a class -/
def tOne (K : PySem.W.Frag) (f : Str) (to te : TE) : TS := fun D σ H => te σ H fun y H1 => to σ H1 fun x H2 => ∃ a C : Addr, x = .ref a ∧ OwnX K C ∧ PySem.W.findIn K (.ref C) f = some none ∧ H2 a = some (exo a C none) ∧
  ∀ dx, H2 dx = none → dx ≠ a → D.nx σ (upd (upd H2 dx (exd dx [(f, y)])) a (exo a C (some dx)))
theorem ps_one {X : Cx} {o e : Expr} {to te : TE} {f : Str} {p2 pos : Pos} (ho : PE X o to) (he : PE X e te) (hs : swapsWith e (some (.Attribute o f p2)) pos.line X.env = pure false := by rfl) : PS X (.Assign [.Attribute o f p2] e pos) (tOne X.K f to te) := by
  refine ⟨fun pins s σ H D I h => plainObj_wpAny_Assign_Attribute (thn (he.run pins s σ H _ I h) ?_) hs⟩
  rintro v s1 ⟨y, H1, I1, r1, q1⟩
  refine thn (ho.run pins s1 σ H1 _ I1 q1) ?_
  rintro u s2 ⟨x, H2, I2, r2, a, C, rfl, T, hno, ea, q⟩
  obtain rfl : u = Value.ref a := r2
  exact one_stored T I2 ea hno r1 fun dx s3 n ne J => ⟨σ, _, J, q dx n ne⟩
/-- C(e), C's own __init__ keeping the value as f -/
def tMk1 (C : Addr) (f : Str) (ta : TA) : L2.St → Hp → XK → Prop := fun σ H Q => ta σ H fun vs H1 => ∃ v, vs = [v] ∧ ∀ d, H1 d = none → Q (.ref C) (some d) (upd H1 d (.xd [(f, v)]))
/-- the __init__ of such a class keeps its value -/
def spKeep (C : Addr) (f : Str) : Sp := fun vs H Q _ => ∃ (a : Addr) (v : V), vs = [.ref a, v] ∧ H a = some (exo a C none) ∧ ∀ dx, H dx = none → dx ≠ a → Q .non (upd (upd H dx (exd dx [(f, v)])) a (exo a C (some dx)))
theorem pmk_one {X : Cx} {CX : CXT} {x f : Str} {p pos : Pos} {e : Expr} {ta : TA} {C fI : Addr} {k : Nat} {fd : FuncData} {ps : List Str} (T : OwnX X.K C) (iC : PySem.W.findIn X.K (.ref C) "__init__" = some (some (.ref fI)))
    (tI : PySem.W.typeIn X.K (.ref fI) = some (.type "function")) (F1 : FnOk X.prog X.w X.K X.mg X.base CX k fI fd ps (spKeep C f)) (hr : Room (k + 1) X.A) (hb : Binds X.K fd ps []) (hx : Passes CX X (fun _ _ _ => False))
    (hg : Gl X x) (hm : X.mg x = some (.ref C)) (ha : PA X [e] ta) (hdb : (x == ("__debug__" : Str)) = false := by decide)
    (he : starEach (e :: []) X.env = (false, eval e X.env) :: starEach [] X.env := by rfl) (hpl : (backTo pos (starEach [] X.env)).any (·.1) = false := by rfl) :
    PMk X (.Call (.Name x p) [e] [] pos) (tMk1 C f ta) := by
  intro pins s σ H Q I h
  obtain ⟨nm, q, N, bs, bm, sn, sub, ab, col, dd, k0, k1, k2, k3, k5, hC, hbm⟩ := T.cls
  refine wpAny_Call_Name_kw (ld_glob I hg hm ?_ hdb)
  refine PySem.W.callWith_K (h₀ := X.base) I.ok.mod.kin T.kC (thn (ha.run pos pins s σ H _ I h) ?_) he hpl
  rintro us s1 ⟨vs, H1, I1, r1, v, rfl, q1⟩
  refine ⟨I1.kIn, ?_⟩
  show wpAny _ _ (call (.ref C) us) _ _ _
  obtain ⟨hp, g, dr, tk, os⟩ := s1
  have le := Nat.le_succ hp.objs.size
  have hn : H1 (hp.objs.size + 1) = none := I1.hok.fresh le
  have kk : ∀ b o, hp.get? b = some o → ((hp.push (PySem.W.kdv_tup us)).push (PySem.HandSPX.excO C hp.objs.size)).get? b = some o := fun b o z => Heap.get?_push_of_some _ (Heap.get?_push_of_some _ z)
  have at1 : ((hp.push (PySem.W.kdv_tup us)).push (PySem.HandSPX.excO C hp.objs.size)).get? (hp.objs.size + 1) = some (PySem.HandSPX.excO C hp.objs.size) := by heap_get
  have I2 := I1.laid (t' := tk) (a := hp.objs.size + 1) (o := exo (hp.objs.size + 1) C none) (h' := (hp.push (PySem.W.kdv_tup us)).push (PySem.HandSPX.excO C hp.objs.size)) kk le (exo_ok at1)
  have hq : spKeep C f [.ref (hp.objs.size + 1), v] (upd H1 (hp.objs.size + 1) (exo (hp.objs.size + 1) C none)) (fun z H2 => z = .non ∧ ∃ (d : Addr) (fs : List (Str × V)), H2 (hp.objs.size + 1) = some (exo (hp.objs.size + 1) C (some d)) ∧ H2 d = some (exd d fs) ∧ H1 d = none ∧
      Q (.ref C) (some d) (upd (del H2 (hp.objs.size + 1)) d (.xd fs))) (fun _ _ _ => False) := by
    refine ⟨_, v, rfl, upd_same, fun dx n ne => ⟨rfl, dx, [(f, v)], upd_same, ?_, ?_, ?_⟩⟩
    · rw [upd_ne ne, upd_same]
    · rw [upd_ne ne] at n
      exact n
    · have n1 : H1 dx = none := by
        rw [upd_ne ne] at n
        exact n
      have z := q1 dx n1
      have e2 : upd (del (upd (upd (upd H1 (hp.objs.size + 1) (exo (hp.objs.size + 1) C none)) dx (exd dx [(f, v)])) (hp.objs.size + 1) (exo (hp.objs.size + 1) C (some dx))) (hp.objs.size + 1)) dx (.xd [(f, v)]) = upd H1 dx (.xd [(f, v)]) := by
        funext b
        by_cases hbd : b = dx
        · rw [hbd, upd_same, upd_same]
        · rw [upd_ne hbd, upd_ne hbd]
          by_cases hba : b = hp.objs.size + 1
          · rw [hba, del_same, hn]
          · rw [del_ne hba, upd_ne hba, upd_ne hbd, upd_ne hba]
      rw [e2]
      exact z
  have r2 : Vals [V.ref (hp.objs.size + 1), v] (Value.ref (hp.objs.size + 1) :: (us ++ [])) := .cons rfl (by rw [List.append_nil]; exact r1)
  have hl : (Value.ref (hp.objs.size + 1) :: us ++ []).length = ps.length := by
    have z := r2.length
    rw [F1.len _ _ _ _ hq] at z
    exact z.symm
  have hus : us.length ≤ sizeLine := by
    rw [← Paired.length r1, sizeLine_eq]
    exact (by decide : 1 ≤ 16777216)
  refine wpAny_call (PySem.HandSPX.call_own PySem.F.excBase_Exception hbm.has (I1.kIn _ _ hC) (PySem.W.looks_findIn I1.kIn iC) (fun z => PySem.W.bind_fn I1.kIn z tI) hus ?_)
  refine codeAny_mono (F1.run _ X.stack _ _ ⟨Value.ref (hp.objs.size + 1) :: us, []⟩ _ _ _ (fun _ _ _ => False) (hr.make C us []) (I2.env0.make C us []) (hb _ (Value.ref (hp.objs.size + 1) :: us) I2.kIn hl) r2 hq) ?_
  intro r s2 hq2
  cases r with
  | error er => exact hx pins σ _ _ er s2 I2 hq2
  | ok fl =>
    cases fl with
    | next => exact False.elim hq2
    | brk => exact False.elim hq2
    | cont => exact False.elim hq2
    | ret u =>
      obtain ⟨z, H2, os2, bare2, un2, hok2, rv, rfl, d, fs, ea, ed, hd1, q2⟩ := hq2
      obtain ⟨h2, g2, d2, t2, os3⟩ := s2
      exact ⟨rv, mk_end (raises_own T.exC T.tyC) I1 le kk un2 hok2 os2 bare2 ea ed hd1 q2⟩
end SG

/-! Data at any depth, and the empty dict: its kind, lengths, items. -/
namespace SG
open PySem PySem.Spec PyProof.Rows L2
/-- data, or the empty dict -/
def Dq (K : PySem.W.Frag) (H : Hp) (x : V) (d : PyData) : Prop := Dp K H x d ∨ (d = .dict [] ∧ ∃ a, x = .ref a ∧ H a = some (.dK []))
def kindOf : PyData → String
  | .none => "NoneType"
  | .bool _ => "bool"
  | .int _ => "int"
  | .str _ => "str"
  | .list _ => "list"
  | .tuple _ => "tuple"
  | .dict _ => "dict"
section
variable {K : PySem.W.Frag} {H H2 : Hp} {x : V} {d : PyData}
theorem dp_ty (h : Dp K H x d) : TyX K H x (.type (kindOf d)) := by
  cases h with
  | non => exact .base .non
  | bl b => exact .base (.bl b)
  | int i => exact .base (.int i)
  | str s => exact .base (.str s)
  | lst s _ =>
    rcases s with (s | ⟨o, s⟩) | ⟨o, vs, n, s, c, _⟩
    · exact .base (.lst s)
    · exact .base (.frz s)
    · exact .kList s c
  | tup s _ =>
    rcases s with (s | ⟨o, s⟩) | ⟨o, vs, n, s, c, _⟩
    · exact .base (.tup s)
    · exact .fTuple s
    · exact .kTuple s c
theorem dq_ty (h : Dq K H x d) : TyX K H x (.type (kindOf d)) := by
  rcases h with h | ⟨rfl, a, rfl, h⟩
  · exact dp_ty h
  · exact .base (.dK h)
mutual
theorem dp_same (s : Same H H2) : ∀ {x : V} {d : PyData}, Dp K H x d → Dp K H2 x d
  | _, _, .non => .non
  | _, _, .bl b => .bl b
  | _, _, .int i => .int i
  | _, _, .str t => .str t
  | _, _, .lst q a => .lst (s.seq q) (dpA_same s a)
  | _, _, .tup q a => .tup (sameT s q) (dpA_same s a)
theorem dpA_same (s : Same H H2) : ∀ {xs : List V} {ds : List PyData}, DpAll K H xs ds → DpAll K H2 xs ds
  | _, _, .nil => .nil
  | _, _, .cons a b => .cons (dp_same s a) (dpA_same s b)
end
theorem dq_same (s : Same H H2) (h : Dq K H x d) : Dq K H2 x d := by
  rcases h with h | ⟨e, a, e2, h⟩
  · exact .inl (dp_same s h)
  · exact .inr ⟨e, a, e2, s _ _ h⟩
theorem dpA_len : ∀ {xs : List V} {ds : List PyData}, DpAll K H xs ds → xs.length = ds.length
  | _, _, .nil => rfl
  | _, _, .cons _ b => congrArg (· + 1) (dpA_len b)
theorem dpA_get : ∀ {xs : List V} {ds : List PyData} {i : Nat} {x : V}, DpAll K H xs ds → xs[i]? = some x → ∃ d, ds[i]? = some d ∧ Dp K H x d
  | _, _, _, _, .nil, e => by simp at e
  | _, _, 0, _, .cons a b, e => by
    simp at e
    subst e
    exact ⟨_, rfl, a⟩
  | _, _, i + 1, x, .cons a b, e => by
    obtain ⟨d, h1, h2⟩ := dpA_get (i := i) (x := x) b (by simpa using e)
    exact ⟨d, by simpa using h1, h2⟩
theorem dpA_app : ∀ {xs ys : List V} {ds es : List PyData}, DpAll K H xs ds → DpAll K H ys es → DpAll K H (xs ++ ys) (ds ++ es)
  | _, _, _, _, .nil, h => h
  | _, _, _, _, .cons a b, h => .cons a (dpA_app b h)
/-- what is no tuple has no tuple's kind -/
theorem dq_tuple {ds : List PyData} (h : Dq K H x (.tuple ds)) : ∃ a xs, x = .ref a ∧ SqT K H a xs ∧ DpAll K H xs ds := by
  rcases h with h | ⟨e, _⟩
  · cases h with
    | tup q a => exact ⟨_, _, rfl, q, a⟩
  · cases e
def isTup : PyData → Bool
  | .tuple _ => true
  | _ => false
def isInt : PyData → Bool
  | .int _ => true
  | _ => false
theorem isi_tuple (h : Dq K H x d) : PySem.W.kitOne K (.type (kindOf d)) (.type "tuple") = some (isTup d) := by
  cases d with
  | none => exact kit_ty (show kitB "NoneType" "tuple" = some false by decide +kernel)
  | bool _ => exact kit_ty (show kitB "bool" "tuple" = some false by decide +kernel)
  | int _ => exact kit_ty (show kitB "int" "tuple" = some false by decide +kernel)
  | str _ => exact kit_ty (show kitB "str" "tuple" = some false by decide +kernel)
  | list _ => exact kit_ty (show kitB "list" "tuple" = some false by decide +kernel)
  | tuple _ => exact kit_ty (show kitB "tuple" "tuple" = some true by decide +kernel)
  | dict _ => exact kit_ty (show kitB "dict" "tuple" = some false by decide +kernel)
def isIntLike : PyData → Bool
  | .int _ => true
  | .bool _ => true
  | _ => false
def isBool : PyData → Bool
  | .bool _ => true
  | _ => false
theorem isi_int (h : Dq K H x d) : PySem.W.kitOne K (.type (kindOf d)) (.type "int") = some (isIntLike d) := by
  cases d with
  | none => exact kit_ty (show kitB "NoneType" "int" = some false by decide +kernel)
  | bool _ => exact kit_ty (show kitB "bool" "int" = some true by decide +kernel)
  | int _ => exact kit_ty (show kitB "int" "int" = some true by decide +kernel)
  | str _ => exact kit_ty (show kitB "str" "int" = some false by decide +kernel)
  | list _ => exact kit_ty (show kitB "list" "int" = some false by decide +kernel)
  | tuple _ => exact kit_ty (show kitB "tuple" "int" = some false by decide +kernel)
  | dict _ => exact kit_ty (show kitB "dict" "int" = some false by decide +kernel)
theorem isi_bool (h : Dq K H x d) : PySem.W.kitOne K (.type (kindOf d)) (.type "bool") = some (isBool d) := by
  cases d with
  | none => exact kit_ty (show kitB "NoneType" "bool" = some false by decide +kernel)
  | bool _ => exact kit_ty (show kitB "bool" "bool" = some true by decide +kernel)
  | int _ => exact kit_ty (show kitB "int" "bool" = some false by decide +kernel)
  | str _ => exact kit_ty (show kitB "str" "bool" = some false by decide +kernel)
  | list _ => exact kit_ty (show kitB "list" "bool" = some false by decide +kernel)
  | tuple _ => exact kit_ty (show kitB "tuple" "bool" = some false by decide +kernel)
  | dict _ => exact kit_ty (show kitB "dict" "bool" = some false by decide +kernel)
end
/-! ### two tuples put together, a slice of a tuple: whatever object it is -/
theorem cat3 {K : PySem.W.Frag} {C : V → Hp → Prop} {H : Hp} {a b : Addr} {xs ys : List V} (hA : SqT K H a xs) (hB : SqT K H b ys) (h : ∀ (x : Addr) (H3 : Hp), Same H H3 → SqT K H3 x (xs ++ ys) → C (.ref x) H3) :
    (xs = [] → C (.ref b) H) ∧ (xs ≠ [] → ys = [] → C (.ref a) H) ∧ (xs ≠ [] → ys ≠ [] → ∀ p, H p = none → C (.ref p) (upd H p (.tup (xs ++ ys)))) := by
  refine ⟨fun e => ?_, fun _ e => ?_, fun _ _ p np => h p _ (same_new np) (.inl (.inl upd_same))⟩
  · subst e
    exact h b H (Same.refl H) hB
  · subst e
    refine h a H (Same.refl H) ?_
    rw [List.append_nil]
    exact hA
def rCatU (K : PySem.W.Frag) : R2 := fun x y H Q => ∃ a b xs ys, x = .ref a ∧ y = .ref b ∧ SqT K H a xs ∧ SqT K H b ys ∧ xs.length + ys.length ≤ sizeLine ∧ ∀ (z : Addr) (H3 : Hp), Same H H3 → SqT K H3 z (xs ++ ys) → Q (.ref z) H3
theorem k_catU {X : Cx} {K : PySem.W.Frag} (e : X.K = K := by rfl) : OpR X (binaryOp .Add) (rCatU K) := by
  subst e
  intro pins s σ H x y v u Q I rx ry h
  obtain ⟨a, b, xs, ys, rfl, rfl, hA, hB, hl, q⟩ := h
  exact op_catA pins s σ H _ _ v u Q I rx ry ⟨a, b, xs, ys, rfl, rfl, hA, hB, hl, cat3 hA hB q⟩
def rSlU (K : PySem.W.Frag) : V → Option Int → Option Int → Hp → VK → Prop := fun x lo hi H Q => ∃ a xs, x = .ref a ∧ SqT K H a xs ∧ ∀ (z : Addr) (H3 : Hp), Same H H3 → SqT K H3 z (cutV xs lo hi) → Q (.ref z) H3
theorem k_slU {X : Cx} {K : PySem.W.Frag} (e : X.K = K := by rfl) : SlR X (rSlU K) := by
  subst e
  intro pins s σ H x v vl vu lo hi sl Q I rx hs pl pu h
  obtain ⟨a, xs, rfl, hA, q⟩ := h
  refine sl_tupA pins s σ H _ v vl vu lo hi sl Q I rx hs pl pu ⟨a, xs, rfl, hA, fun z => q a H (Same.refl H) ?_, fun _ p np => q p _ (same_new np) (.inl (.inl upd_same))⟩
  unfold cutV
  rw [z.1, z.2, Nat.sub_zero, List.drop_zero, List.take_length]
  exact hA
def isRuleD : PyData → Bool
  | .tuple [.tuple xs, .tuple ys] => xs.length == ys.length && (xs ++ ys).all isInt
  | _ => false
end SG

/-! Data that can be told and compared. -/
namespace SG
open PySem PySem.Spec PyProof.Rows L2
structure OkD (d : PyData) : Prop where
  lay : d.canLay0 = true
  dep : d.depth ≤ 50
  tell : tellable d = true
  short : d.leavesShort 4302 = true
  bulk : d.bulk ≤ 3000
structure OkA (ds : List PyData) : Prop where
  lay : PyData.canLayAll0 ds = true
  dep : PyData.depthAll ds ≤ 49
  tell : tellableAll ds = true
  short : PyData.leavesShortAll 4302 ds = true
theorem OkD.shown {d : PyData} (h : OkD d) : d.shown.length ≤ sizeLine := by
  have z := PyData.shown_le_bulk 4302 (by decide) d h.short
  have z2 : (4302 + 2) * d.bulk ≤ 4304 * 3000 := Nat.mul_le_mul (Nat.le_refl _) h.bulk
  rw [sizeLine_eq]
  omega
theorem OkA.tuple {ds : List PyData} (h : OkA ds) (b : PyData.bulkAll ds ≤ 3000) : OkD (.tuple ds) :=
  ⟨by simpa only [PyData.canLay0] using h.lay, by simp only [PyData.depth]; have := h.dep; omega, by simpa only [tellable] using h.tell, by simpa only [PyData.leavesShort] using h.short, by simpa only [PyData.bulk] using b⟩
theorem OkA.list {ds : List PyData} (h : OkA ds) (b : PyData.bulkAll ds ≤ 3000) : OkD (.list ds) :=
  ⟨by simpa only [PyData.canLay0] using h.lay, by simp only [PyData.depth]; have := h.dep; omega, by simpa only [tellable] using h.tell, by simpa only [PyData.leavesShort] using h.short, by simpa only [PyData.bulk] using b⟩
theorem OkA.nil : OkA [] := ⟨by simp [PyData.canLayAll0], by simp [PyData.depthAll], by simp [tellableAll], by simp [PyData.leavesShortAll]⟩
theorem OkA.cons {d : PyData} {ds : List PyData} (h : OkD d) (hd : d.depth ≤ 49) (t : OkA ds) : OkA (d :: ds) :=
  ⟨by simp only [PyData.canLayAll0, h.lay, t.lay, Bool.and_self], by simp only [PyData.depthAll]; have := t.dep; omega, by simp only [tellableAll, h.tell, t.tell, Bool.and_self], by simp only [PyData.leavesShortAll, h.short, t.short, Bool.and_self]⟩
theorem OkD.int {i : Int} (h : i.natAbs < 10 ^ 4300) : OkD (.int i) := by
  refine ⟨by simp only [PyData.canLay0], by simp only [PyData.depth]; omega, ?_, ?_, by simp only [PyData.bulk]; omega⟩
  · simp only [tellable]
    exact decide_eq_true h
  · have e := int_text_length_le10 (k := 4300) (by decide) h
    simp only [PyData.leavesShort]
    refine decide_eq_true ?_
    show (Str.ofString (toString i)).length ≤ 4302
    rw [PySem.ofString_length]
    omega
theorem okA_ints : ∀ {ns : List Int}, (∀ n ∈ ns, n.natAbs < 10 ^ 4300) → OkA (dI ns)
  | [], _ => .nil
  | n :: ns, h => .cons (.int (h n List.mem_cons_self)) (by simp only [PyData.depth]; omega) (okA_ints fun m hm => h m (List.mem_cons_of_mem _ hm))
theorem bulk_ints : ∀ ns : List Int, PyData.bulkAll (dI ns) = ns.length
  | [] => by simp [dI, PyData.bulkAll]
  | n :: ns => by
    have ih := bulk_ints ns
    show PyData.bulkAll (PyData.int n :: dI ns) = ns.length + 1
    simp only [PyData.bulkAll, PyData.bulk, ih]
    omega
end SG
namespace SG
open PySem PySem.Spec PyProof.Rows L2
theorem canLay_mem : ∀ {ds : List PyData} {d : PyData}, PyData.canLayAll0 ds = true → d ∈ ds → d.canLay0 = true
  | x :: xs, d, h, m => by
    have h2 : x.canLay0 = true ∧ PyData.canLayAll0 xs = true := by simpa only [PyData.canLayAll0, Bool.and_eq_true] using h
    rcases List.mem_cons.mp m with e | m
    · rw [e]; exact h2.1
    · exact canLay_mem h2.2 m
theorem canLay_sub : ∀ {es ds : List PyData}, PyData.canLayAll0 ds = true → (∀ e ∈ es, e ∈ ds) → PyData.canLayAll0 es = true
  | [], _, _, _ => by simp only [PyData.canLayAll0]
  | e :: es, ds, h, s => by
    simp only [PyData.canLayAll0, canLay_mem h (s e List.mem_cons_self), canLay_sub (es := es) h fun x m => s x (List.mem_cons_of_mem _ m), Bool.and_self]
theorem depth_mem : ∀ {ds : List PyData} {d : PyData}, d ∈ ds → d.depth ≤ PyData.depthAll ds
  | x :: xs, d, m => by
    simp only [PyData.depthAll]
    rcases List.mem_cons.mp m with e | m
    · rw [e]; exact Nat.le_max_left _ _
    · exact Nat.le_trans (depth_mem m) (Nat.le_max_right _ _)
theorem depth_sub : ∀ {es ds : List PyData}, (∀ e ∈ es, e ∈ ds) → PyData.depthAll es ≤ PyData.depthAll ds
  | [], _, _ => by simp only [PyData.depthAll]; omega
  | e :: es, ds, s => by
    simp only [PyData.depthAll]
    exact Nat.max_le.mpr ⟨depth_mem (s e List.mem_cons_self), depth_sub fun x m => s x (List.mem_cons_of_mem _ m)⟩
theorem shaped_sub {es ds : List PyData} (h1 : PyData.canLayAll0 ds = true) (h2 : PyData.depthAll ds ≤ 60) (s : ∀ e ∈ es, e ∈ ds) : SeqAt.shaped (.list es) = true := by
  have a := canLay_sub h1 s
  have b := depth_sub s
  simp only [SeqAt.shaped, PyData.canLay0, PyData.depth, a, Bool.true_and]
  exact decide_eq_true (by omega)
theorem eqv_nil : ∀ ds : List PyData, PyData.eqv (.list ds) (.list []) = ds.isEmpty
  | [] => by simp [PyData.eqv, PyData.eqvAll]
  | d :: ds => by simp [PyData.eqv, PyData.eqvAll]
/-- a comprehension over a tuple of data that keeps those that p takes -/
theorem lc_tupF {K : PySem.W.Frag} {a D : Addr} {xs : List V} {ds : List PyData} {tt : TT} {s : Nat} {σ : L2.St} {H1 : Hp} {Qd : Hp → Prop} (p : PyData → Bool) (hn : xs.length ≤ 1000) (hD : H1 D = none) (hS : SqT K H1 a xs) (hX : DpAll K H1 xs ds) (hs : s < σ.length)
    (turn : ∀ (x : V) (d : PyData) (H2 : Hp), d ∈ ds → Dp K H2 x d → ∀ R : Bool → Hp → Prop, R (p d) H2 → tt ((wipe σ [s]).set s (some x)) H2 R)
    (done : ∀ (ys : List V) (H2 : Hp), Same H1 H2 → H2 D = some (.lst ys) → DpAll K H1 ys (ds.filter p) → Qd H2) :
    ∃ W : Nat → Nat → Hp → Prop, (∃ m, W 0 m (upd H1 D (.lst []))) ∧ ∀ i m H, W i m H →
      ((Itt K a).stop i H ∧ Qd H) ∨ ((Itt K a).go i H ∧ ∃ Nx : Hp → Prop, (∀ H2, Nx H2 → ∃ m2, m2 < m ∧ W (i + 1) m2 H2) ∧ ∀ x H2, (Itt K a).yld i H x H2 → gName s x (wipe σ [s]) H2 fun σ2 H3 => wipe σ2 [s] = wipe σ [s] ∧ tt σ2 H3 fun b H4 =>
        if b = true then tVar s σ2 H4 fun y H5 => ∃ acc, H5 D = some (.lst acc) ∧ acc.length < sizeLine ∧ Nx (upd H5 D (.lst (acc ++ [y]))) else Nx H4) := by
  refine lc_tup (xs := xs) (fun i H2 => Same H1 H2 ∧ ∃ ys, H2 D = some (.lst ys) ∧ DpAll K H1 ys ((ds.take i).filter p) ∧ ys.length ≤ i) ⟨same_new hD, [], upd_same, by simpa using DpAll.nil, Nat.le_refl _⟩ (fun i H2 _ q => sameT q.1 hS) ?_ ?_
  · rintro i x H2 hx ⟨sm, ys, h2, hY, hl⟩
    obtain ⟨d, h1, h3⟩ := dpA_get hX hx
    have hi : i < xs.length := (List.getElem?_eq_some_iff.mp hx).1
    have e1 : (ds.take (i + 1)).filter p = (ds.take i).filter p ++ (if p d = true then [d] else []) := by
      rw [List.take_add_one, h1]
      show ((ds.take i) ++ [d]).filter p = _
      rw [List.filter_append]
      congr 1
      by_cases e : p d = true <;> simp [e]
    refine ⟨wipe1 _ _ _, ?_⟩
    refine turn x d H2 (List.mem_of_getElem? h1) (dp_same sm h3) _ ?_
    by_cases e : p d = true
    · refine ifT e ⟨x, ?_, ys, h2, small1000 (by omega), same_upd_of sm hD, ys ++ [x], upd_same, ?_, by rw [List.length_append]; simpa using hl⟩
      · rw [List.getElem?_set_self (by rw [wipe_length]; exact hs)]
      · rw [e1, if_pos e]
        exact dpA_app hY (.cons h3 .nil)
    · refine ifF (by simpa using e) ⟨sm, ys, h2, ?_, by omega⟩
      rw [e1, if_neg e, List.append_nil]
      exact hY
  · rintro H2 ⟨sm, ys, h2, hY, hl⟩
    refine done ys H2 sm h2 ?_
    rw [dpA_len hX, List.take_length] at hY
    exact hY
end SG

/-! Calls by keywords alone. -/
namespace SG
open PySem PySem.Spec PyProof.Rows L2
def kwOne {α : Type} : List α → List α → List α
  | [], [a] => [a]
  | _, _ => []
/-- two keywords, in the other order -/
def kwTurn {α : Type} : List α → List α → List α
  | [], [b, a] => [a, b]
  | _, _ => []
theorem kwOne_rel {vs : List V} {us : List Value} {zs : List V} {ws : List Value} (a : Vals vs us) (b : Vals zs ws) : Vals (kwOne vs zs) (kwOne us ws) := by
  cases a with
  | nil =>
    cases b with
    | nil => exact .nil
    | cons r t =>
      cases t with
      | nil => exact .cons r .nil
      | cons _ _ => exact .nil
  | cons _ _ => exact .nil
theorem kwTurn_rel {vs : List V} {us : List Value} {zs : List V} {ws : List Value} (a : Vals vs us) (b : Vals zs ws) : Vals (kwTurn vs zs) (kwTurn us ws) := by
  cases a with
  | nil =>
    cases b with
    | nil => exact .nil
    | cons r t =>
      cases t with
      | nil => exact .nil
      | cons r2 t2 =>
        cases t2 with
        | nil => exact .cons r2 (.cons r .nil)
        | cons _ _ => exact .nil
  | cons _ _ => exact .nil
theorem kb_of {K : PySem.W.Frag} {x qn : Str} {st : Stmt} {f : Addr} {fd : FuncData} {ps ks : List Str} {g : List Value → List Value → List Value} {gV : List V → List V → List V} (F : Fun K x qn st f fd)
    (h : ∀ (kV doc pm : Value) (an : Option Addr) (cdv ct : Value) (us ws : List Value), (g us ws).length = ps.length → bindArgs (PySem.W.fnOf x qn (defArgs st) (defBody st) (defScope st) .none kV doc pm an cdv ct) ⟨us, ks.zip ws⟩ = pure (ps.zip (g us ws)))
    (rel : ∀ {vs : List V} {us : List Value} {zs : List V} {ws : List Value}, Vals vs us → Vals zs ws → Vals (gV vs zs) (g us ws)) : KBinds K fd ps ks g gV := by
  obtain ⟨oc, od, kV, doc, pm, an, cdv, ct, osl, rfl, lk, hcd⟩ := F.ex
  exact ⟨fun s us ws _ hl => .of_eq (h kV doc pm an cdv ct us ws hl), rel⟩
end SG

/-! Instances of own classes: made where their __init__ may raise; == and len by own methods; isinstance of a caught exception that has attributes. -/
namespace SG
open PySem PySem.Spec PyProof.Rows L2
/-- isinstance(e, c), e the exception that the suite holds, its dict at d -/
def rIsX (K : PySem.W.Frag) (D a : Addr) (cls : Value) (d : Option Addr) : List V → Hp → VK → Prop := fun xs H Q => ∃ (c : V) (cv : Value) (b : Bool) (dd : Addr) (fs : List (Str × V)), xs = [.ref a, c] ∧ cls = .ref D ∧ (∀ u, RelV c u → u = cv) ∧ PySem.W.kitOne K (.ref D) cv = some b ∧ d = some dd ∧ H dd = some (.xd fs) ∧ Q (.bl b) H
theorem call_isX {X : Cx} {K : PySem.W.Frag} {a D : Addr} {oe : Obj} {cls : Value} {d : Option Addr} {pn : List (Addr × Obj)} (C : ExcC X.K D) (hc : (PySem.W.clsIn X.K D).isSome = true) (hz : Zc cls d oe) (hf : ∃ vs, oe.data = .fields vs) (eK : X.K = K := by rfl) :
    CallR (X.suite a ((a, oe) :: pn)) (.builtin "isinstance") (rIsX K D a cls d) := by
  subst eK
  intro pins s σ H xs us Q I r h
  obtain ⟨c, cv, b, dd, fs, rfl, rfl, hcv, e, rfl, hd, q⟩ := h
  cases r with
  | cons rx rr =>
    cases rr with
    | cons rt rr =>
      cases rr
      cases rx
      obtain rfl := hcv _ rt
      obtain ⟨hget, _⟩ := I.pin (a, oe) (List.mem_append.mpr (.inl List.mem_cons_self))
      obtain ⟨vs, hv⟩ := hf
      have hx : ObjOk X.prog X.w H s.heap dd (.xd fs) := I.hok dd _ hd
      obtain ⟨mA, hns, hr⟩ := hx
      obtain ⟨od, ho, hl⟩ := lookIn_ns hns
      have J : PySem.W.InstAt s.heap a oe D (some od) := ⟨hget, hz.1, by unfold PySem.W.notCls; rw [hv] <;> rfl, by rw [hz.2]; exact ho⟩
      exact PySem.W.kia_one (PySem.W.kitx_exc hc C.hg C.hk C.hs C.ha C.hn C.ht C.hm) I.kIn J e (fun z => nomatch z) fun tk => ⟨.bl b, H, I.kept (t' := tk) fun _ _ z => z, rfl, q⟩

section
variable {X : Cx} {cx : CXT} {k : Nat} {f C : Addr} {fd : FuncData} {ps ks : List Str} {sp : Sp} {E : L2.St → XK} {x : Str} {p pos : Pos} {e : Expr} {es : List Expr} {kws : List Keyword} {t tk : TA} {g : List Value → List Value → List Value} {gV : List V → List V → List V}
theorem run_makeS {pins : List (Addr × Obj)} {σ : L2.St} {H : Hp} {s : Shared} {Q : VK} {us ws : List Value} {vs zs : List V} {kw : List (Str × Value)} (M : Mk X.K C f) (F : FnOk X.prog X.w X.K X.mg X.base cx k f fd ps sp) (hr : Room (k + 1) X.A)
    (hb : ∀ (st : Shared) (y : Addr), X.K.In st.heap → (g (.ref y :: us) ws).length = ps.length → BindsTo st fd ⟨.ref y :: us, kw⟩ (ps.zip (g (.ref y :: us) ws))) (rl : ∀ y : Addr, Vals (gV (.ref y :: vs) zs) (g (.ref y :: us) ws)) (hx : PassesAt cx X σ (E σ)) (I : Inv X pins σ H s)
    (h : ∀ y dx, H y = none → H dx = none → dx ≠ y → sp (gV (.ref y :: vs) zs) (upd (upd H dx (.own y)) y (.ins C dx [])) (fun v H2 => v = .non ∧ Q (.ref y) H2) (E σ)) :
    wpAny (model X.prog X.w) X.A (call (.ref C) us kw) (EP X pins σ Q) X.xe s := by
  have hq := h (s.heap.objs.size + 1) s.heap.objs.size (I.hok.fresh (Nat.le_succ _)) (I.hok.fresh (Nat.le_refl _)) (Nat.ne_of_lt (Nat.lt_succ_self _))
  have I2 := Inv.made (C := C) I
  have r2 := rl (s.heap.objs.size + 1)
  have hl := r2.length
  rw [F.len _ _ _ _ hq] at hl
  refine wpAny_call (make_map (f := f) I.kIn M.makes M.init (beq_iff_eq.mp M.fn) ?_)
  refine codeAny_mono (F.run _ X.stack _ _ ⟨Value.ref (s.heap.objs.size + 1) :: us, kw⟩ _ _ _ (E σ) (hr.make C us kw) (I2.env0.make C us kw) (hb _ _ I2.kIn hl.symm) r2 hq) ?_
  intro r s2 hq2
  cases r with
  | error er => exact hx pins _ _ er s2 I2 hq2
  | ok fl =>
    cases fl with
    | next => exact False.elim hq2
    | brk => exact False.elim hq2
    | cont => exact False.elim hq2
    | ret u =>
      obtain ⟨v, H3, I3, rv, rfl, q3⟩ := I2.after hq2
      exact ⟨rv, ⟨V.ref (s.heap.objs.size + 1), H3, I3, rfl, q3⟩⟩
/-- C(e, ..), what its __init__ lets out wished for at the slots -/
def tMakeS (C : Addr) (sp : Sp) (E : L2.St → XK) (t : TA) : TE := fun σ H Q => t σ H fun vs H1 => ∀ y dx, H1 y = none → H1 dx = none → dx ≠ y → sp (.ref y :: vs) (upd (upd H1 dx (.own y)) y (.ins C dx [])) (fun v H2 => v = .non ∧ Q (.ref y) H2) (E σ)
theorem pe_makeS (M : Mk X.K C f) (F : FnOk X.prog X.w X.K X.mg X.base cx k f fd ps sp) (hr : Room (k + 1) X.A) (hg : Gl X x) (hm : X.mg x = some (.ref C)) (hb : Binds X.K fd ps []) (hx : ∀ σ, PassesAt cx X σ (E σ)) (ha : PA X (e :: es) t)
    (hdb : (x == ("__debug__" : Str)) = false := by decide) (he : starEach (e :: es) X.env = (false, eval e X.env) :: starEach es X.env := by rfl) (hpl : (backTo pos (starEach es X.env)).any (·.1) = false := by rfl) :
    PE X (.Call (.Name x p) (e :: es) [] pos) (tMakeS C sp E t) := by
  refine ⟨fun pins s σ H Q I h => wpAny_Call_Name_kw (ld_glob I hg hm ?_ hdb)⟩
  refine PySem.W.callWith_K (h₀ := X.base) I.ok.mod.kin M.kp (thn (ha.run pos pins s σ H _ I h) ?_) he hpl
  rintro us s1 ⟨vs, H1, I1, r, q⟩
  refine ⟨I1.kIn, ?_⟩
  refine run_makeS (g := fun a _ => a) (gV := fun a _ => a) (ws := []) (zs := []) M F hr (fun st y X1 hl => ?_) (fun y => .cons rfl r) (hx σ) I1 q
  have z := hb st (.ref y :: us) X1 (by rw [List.append_nil]; exact hl)
  rw [List.append_nil] at z
  exact z
/-- C(k = e, ..) -/
def tMakeSK (C : Addr) (sp : Sp) (gV : List V → List V → List V) (E : L2.St → XK) (tk : TA) : TE := fun σ H Q => tk σ H fun zs H1 => ∀ y dx, H1 y = none → H1 dx = none → dx ≠ y → sp (gV [.ref y] zs) (upd (upd H1 dx (.own y)) y (.ins C dx [])) (fun v H2 => v = .non ∧ Q (.ref y) H2) (E σ)
theorem pe_makeSK (M : Mk X.K C f) (F : FnOk X.prog X.w X.K X.mg X.base cx k f fd ps sp) (hr : Room (k + 1) X.A) (hg : Gl X x) (hm : X.mg x = some (.ref C)) (hb : KBinds X.K fd ps ks g gV) (hx : ∀ σ, PassesAt cx X σ (E σ)) (hkw : PK X kws tk)
    (hall : (backToKw pos (keywordEach kws X.env)).all (·.1.isSome) = true := by rfl) (hks : (backToKw pos (keywordEach kws X.env)).filterMap (·.1) = ks := by rfl) (hdb : (x == ("__debug__" : Str)) = false := by decide)
    (hpl : ((backTo pos (starEach [] X.env)).any (·.1) || (backToKw pos (keywordEach kws X.env)).any (·.1.isNone)) = false := by rfl) :
    PE X (.Call (.Name x p) [] kws pos) (tMakeSK C sp gV E tk) := by
  refine ⟨fun pins s σ H Q I h => wpAny_Call_Name_kw (ld_glob I hg hm ?_ hdb)⟩
  refine PySem.W.callWith_KW0 (h₀ := X.base) I.ok.mod.kin M.kp hall (thn (hkw.run pos pins s σ H _ I h) ?_) hpl
  rintro ws s2 ⟨zs, H2, I2, rz, q2⟩
  refine ⟨I2.kIn, ?_⟩
  rw [hks]
  exact run_makeS (us := []) (vs := []) (ws := ws) (zs := zs) M F hr (fun st y X1 hl => hb.to st [.ref y] ws X1 hl) (fun y => hb.rel (.cons rfl .nil) rz) (hx σ) I2 q2
end

/-! ### == and len by own methods -/
section
variable {X : Cx} {k : Nat} {f C : Addr} {fd : FuncData} {ps : List Str} {sp : Sp}
/-- x == y, x an instance of the class at C that has its own == -/
def rEqOwn (K : PySem.W.Frag) (C : Addr) (sp : Sp) : R2 := fun x y H Q => ∃ (a dx : Addr) (fs : List (Str × V)) (tb : Value), x = .ref a ∧ H a = some (.ins C dx fs) ∧ TyX K H y tb ∧ PySem.W.notFirst K C tb = true ∧ sp [x, y] H Q E0
theorem op_eqOwn {K : PySem.W.Frag} (F : FnOk X.prog X.w X.K X.mg X.base CX0 k f fd ps sp) (hr : Room k X.A) (hs : PySem.W.findIn X.K (.ref C) "__eq__" = some (some (.ref f))) (hf : PySem.W.isFn X.K (.ref f) = true) (hb : Binds X.K fd ps []) (eK : X.K = K := by rfl) :
    OpR X (compareOp .Eq) (rEqOwn K C sp) := by
  subst eK
  intro pins s σ H x y v u Q I rx ry h
  obtain ⟨a, dx, fs, tb, rfl, ha, ht, hn, hsp⟩ := h
  cases rx
  obtain ⟨mA, J, _⟩ := ins_get I.hok ha
  obtain ⟨od, J, _⟩ := J.look
  obtain ⟨P, ⟨Z, hP, _⟩⟩ := kit_of I ry ht
  obtain ⟨m, hF⟩ := I.fr
  show wpAny (model X.prog X.w) X.A (richCompare .Eq (.ref a) u) (EP X pins σ Q) X.xe s
  refine PySem.W.cmp_K (op := .Eq) hr.units0 hF I.ok.mod.kin J (Z.ty _ _ I.kIn hP) hn hs hf ?_
  have r2 : Vals [V.ref a, y] [Value.ref a, u] := .cons rfl (.cons ry .nil)
  have hl := r2.length
  rw [F.len _ _ _ _ hsp] at hl
  refine wpAny_call (codeAny_mono (F.run X.A X.stack s H ⟨[.ref a, u], []⟩ [.ref a, u] [.ref a, y] Q E0 hr I.env0 (by
    have z := hb s [.ref a, u] I.kIn (by simpa using hl.symm)
    simpa using z) r2 hsp) fun r s2 hq => ?_)
  cases r with
  | error e => exact False.elim hq
  | ok fl =>
    cases fl with
    | next => exact False.elim hq
    | brk => exact False.elim hq
    | cont => exact False.elim hq
    | ret w2 =>
      obtain ⟨z, H2, I2, rz, q2⟩ := I.after hq
      have e2 : EP X pins σ Q w2 s2 := ⟨z, H2, I2, rz, q2⟩
      cases z <;> (try obtain ⟨_, rfl⟩ := rz) <;> (try cases rz) <;> exact e2
/-- len(x), x an instance of the class at C that has its own len -/
def rLenOwn (C : Addr) (sp : Sp) : List V → Hp → VK → Prop := fun xs H Q => ∃ (a dx : Addr) (fs : List (Str × V)), xs = [.ref a] ∧ H a = some (.ins C dx fs) ∧ sp [.ref a] H (fun v H2 => ∃ n : Nat, v = .int n ∧ n < 9223372036854775808 ∧ Q (.int n) H2) E0
theorem call_lenOwn (F : FnOk X.prog X.w X.K X.mg X.base CX0 k f fd ps sp) (hr : Room (k + 1) X.A) (hs : PySem.W.findIn X.K (.ref C) "__len__" = some (some (.ref f))) (hf : PySem.W.isFn X.K (.ref f) = true) (hb : Binds X.K fd ps []) :
    CallR X (.builtin "len") (rLenOwn C sp) := by
  intro pins s σ H xs us Q I r h
  obtain ⟨a, dx, fs, rfl, ha, hsp⟩ := h
  cases r with
  | cons rx rr =>
    cases rr
    cases rx
    obtain ⟨mA, J, _⟩ := ins_get I.hok ha
    obtain ⟨od, J, _⟩ := J.look
    obtain ⟨m, hF⟩ := I.fr
    refine PySem.W.len_K hF I.ok.mod.kin J hs hf ?_
    have r2 : Vals [V.ref a] [Value.ref a] := .cons rfl .nil
    have hl := r2.length
    rw [F.len _ _ _ _ hsp] at hl
    have e0 : Env0 X.prog X.w X.K X.mg X.base X.A.in1 X.stack s H := by
      have e := I.env0
      exact ⟨e.frames, e.mod, e.bs, e.bsz, e.funs, e.frf, e.hok, e.bare⟩
    refine wpAny_call (codeAny_mono (F.run X.A.in1 X.stack s H ⟨[.ref a], []⟩ [.ref a] [.ref a] _ E0 hr.in1 e0 (by
      have z := hb s [.ref a] I.kIn (by simpa using hl.symm)
      simpa using z) r2 hsp) fun r s2 hq => ?_)
    cases r with
    | error e => exact False.elim hq
    | ok fl =>
      cases fl with
      | next => exact False.elim hq
      | brk => exact False.elim hq
      | cont => exact False.elim hq
      | ret w2 =>
        obtain ⟨z, H2, I2, rz, n, rfl, hn, q2⟩ := I.after hq
        obtain ⟨t2, rfl⟩ := rz
        exact ⟨⟨by omega, by omega⟩, .int n, H2, I2.tok _, ⟨_, rfl⟩, q2⟩
end
end SG

/-! Several clauses `except C as e`, one name for all of them. -/
namespace SG
open PySem PySem.Spec PyProof.Rows L2
abbrev Suit := Addr → Value → Option Addr → TS
/-- the name is gone behind the clause -/
abbrev goneE (i : Nat) (D : Ends) : Ends := { nx := fun τ G => D.nx (τ.set i none) G, rt := D.rt, bk := fun τ G => D.bk (τ.set i none) G, ct := fun τ G => D.ct (τ.set i none) G }
/-- what the clauses wish of an exception, one after the other: slot i is the name's -/
def wAsM (K : PySem.W.Frag) (i : Nat) (Wo : WX) (D : Ends) : List (Value × Suit) → WX
  | [] => Wo
  | (k, ts) :: r => fun cls d τ G => ∃ b, PySem.W.exmOne K cls k = some b ∧ (b = true → ∀ a, G a = none → ts a cls d (goneE i D) (τ.set i (some (.ref a))) G) ∧ (b = false → wAsM K i Wo D r cls d τ G)
inductive HdsA (X : Cx) (n : Str) : List ExceptHandler → List (Value × Suit) → Prop
  | nil : HdsA X n [] []
  | cons {x : Str} {k : Value} {ts : Suit} {b0 : Stmt} {bs : List Stmt} {p1 p2 : Pos} {hs : List ExceptHandler} {l : List (Value × Suit)} (hk : Names X x k)
      (su : ∀ (a : Addr) (oe : Obj) (cls : Value) (d : Option Addr) (pn : List (Addr × Obj)), Zc cls d oe → (∃ vs, oe.data = .fields vs) → PSs (X.suite a ((a, oe) :: pn)) (b0 :: bs) (ts a cls d)) (r : HdsA X n hs l) :
      HdsA X n (.ExceptHandler (some (.Name x p1)) (some n) (b0 :: bs) p2 :: hs) ((k, ts) :: l)
section
variable {X : Cx} {n : Str} {i : Nat} {bd : List Stmt} {h0 : ExceptHandler} {hs : List ExceptHandler} {l : List (Value × Suit)} {pos : Pos} {tb : WX → TS} {Wo : WX}
theorem ps_try_asM (st : X.stack = X.env :: X.outer) (fr : X.env.frame = some X.env.locals) (nd : X.N.Nodup) (hi : X.N[i]? = some n) (kd : X.env.kindOf n = some .local) (tk : Takes X Wo)
    (hb : ∀ (W : WX) (pn : List (Addr × Obj)) (xe : Value → Shared → Prop), Takes (X.tr pn xe) W → PassesOwn (model X.prog X.w) X.A X.env xe → PSs (X.tr pn xe) bd (tb W)) (hh : HdsA X n (h0 :: hs) l) :
    PS X (.Try bd (h0 :: hs) [] [] pos) (fun D σ H => tb (wAsM X.K i Wo D l) D σ H) := by
  refine ⟨fun pins s σ H D I wish => ?_⟩
  have iok := I.ok
  have frames : X.A.frames = some (X.env :: X.outer) := iok.frames.trans (congrArg some st)
  have lc : Loc X.env.scope n := .inl kd
  refine wpAny_Try_except ?_
  refine wpAny_mono ((hb (wAsM X.K i Wo D l) (X.pn ++ pins) (fun e z => wpAny (model X.prog X.w) X.A (noteFrame e X.env)
    (fun _ z2 => wpAny (model X.prog X.w) X.A (setFlight e none) (fun _ z3 => wpAny (model X.prog X.w) X.A (handleBy e X.env (h0 :: hs)) (SP X pins D) X.xe z3) X.xe z2) X.xe z)
    (fun u s' caught => ?_) PassesOwn.looking).run [] s σ H D (I.toTry _) wish) (fun fl s1 went => ?_) (fun _ _ z => z)
  · obtain ⟨a, B, sI, _, τ, G, cls, d, rfl, J', nb, up, sky, na, os, ag, w⟩ := caught
    have J : Inv X pins τ G sI := J'.ofTry iok
    rw [st] at sky
    show wpAny (model X.prog X.w) X.A (noteFrame (.ref a) X.env) _ _ _
    refine Sky.land Zc.steady frames fr sky fun h3 fl3 up3 => ?_
    have up13 := up.trans up3
    have J3 : Inv X pins τ G { s' with heap := h3 } := J.landed nb fl3.1 up13 os ag
    obtain ⟨oe3, vs3, he3, hz3, hd3⟩ := fl3.there
    have apart : a ∉ frs (X.env :: X.outer) := fun hm => by
      obtain ⟨_, o2, e2, no⟩ := (fl3.2.2.1).mem hm
      cases he3.symm.trans e2
      exact no _ hd3
    have nL : a ≠ X.env.locals := fun z => apart (List.mem_filterMap.mpr ⟨X.env, List.mem_cons_self, fr.trans (congrArg some z.symm)⟩)
    have nF : a ∉ X.fs := fun hm => by
      obtain ⟨e, he, q⟩ := List.mem_filterMap.mp hm
      exact apart (List.mem_filterMap.mpr ⟨e, List.mem_cons_of_mem _ he, q⟩)
    have S3 := J3.suite he3 hd3 na nL nF
    have lt : PySem.W.Looks (model X.prog X.w) h3 (typeOf (.ref a)) cls := fun A Q E z k q => wpAny_typeOf_ref (k _ _ he3) (hz3.1.symm ▸ q)
    have go : ∀ {hs2 : List ExceptHandler} {l2 : List (Value × Suit)}, HdsA X n hs2 l2 → wAsM X.K i Wo D l2 cls d τ G → wpAny (model X.prog X.w) X.A (handleBy (.ref a) X.env hs2) (SP X pins D) X.xe { s' with heap := h3 } := by
      intro hs2 l2 hd2
      induction hd2 with
      | nil =>
        intro wn
        refine wpAny_handleBy_nil ?_
        obtain ⟨_, _, _, oe, vs, T, oT, ts2, he, hz, hdd, h1, hr⟩ := id fl3
        unfold PySem.passOn
        refine wpAny_bind (wpAny_field he hdd h1 ?_)
        rw [if_neg (by simp : ¬ ((Value.ref T == Value.none) = true))]
        have out : wpAny (model X.prog X.w) X.A (setFlight (.ref a) X.env.frame) (fun _ z4 => wpAny (model X.prog X.w) X.A (throw (.ref a) : Sem Flow) (SP X pins D) X.xe z4) X.xe { s' with heap := h3 } := by
          rw [fr]
          refine HandSPX.setFlight_upZ fl3 fun h4 hh4 up4 => wpAny_throw (tk _ _ ?_)
          refine ⟨a, B, sI, pins, τ, G, cls, d, rfl, J, nb, up13.trans up4, .inr (.inr ?_), na, os, ag, wn⟩
          rw [st]
          exact hh4
        first
          | exact wpAny_bind (wpAny_pure (wpAny_bind out))
          | exact wpAny_bind out
      | @cons x k ts b0 bs p1 p2 hs3 l3 hk su r ih =>
        intro wc
        obtain ⟨b, eb, yes, no⟩ := wc
        refine wpAny_handleBy_cons (codeAny_handlers_test ?_) (by intro q; cases q)
        have lm := PySem.W.exm_one (M := model X.prog X.w) (J3.kIn) lt eb
        have name : ∀ {Q : Value → Shared → Prop} {E : Value → Shared → Prop}, Q k { s' with heap := h3 } → wpAny (model X.prog X.w) (X.A.mark (some (.ref a))) (eval (.Name x p1) X.env) Q E { s' with heap := h3 } := fun {Q E} q => by
          obtain ⟨g1, g2, g3 | ⟨g3, g4, g5⟩⟩ := hk
          · exact ld_glob (X := X.suite a ((a, oe3) :: (X.pn ++ pins))) S3 g1 g3 q g2
          · exact ld_blt (X := X.suite a ((a, oe3) :: (X.pn ++ pins))) S3 g1 g3 g4 q g5 g2
        refine name (lm.here ?_)
        cases b with
        | false =>
          show wpAny _ X.A (handleBy (.ref a) X.env hs3) _ _ _
          exact ih (no rfl)
        | true =>
          refine codeAny_handlers_suite_as ?_
          refine HandSPX.lands_againZ fl3 fun h4 fl4 up4 => ?_
          have J4 : Inv X pins τ G { s' with heap := h4 } := J.landed nb fl4.1 (up13.trans up4) os ag
          obtain ⟨oe4, vs4, he4, hz4, hd4⟩ := fl4.there
          refine store_ok (X := X.suite a ((a, oe4) :: (X.pn ++ pins))) (v := .ref a) (J4.suite he4 hd4 na nL nF) nd hi lc rfl (fun s5 S5 => ?_) (.inr kd)
          refine wpAny_mono ((su a oe4 cls d (X.pn ++ pins) hz4 ⟨_, hd4⟩).run [] s5 _ G _ S5 (yes rfl a na)) (fun fl s6 went => ?_) (fun _ _ z => z.elim)
          have gone : ∀ {τ6 : L2.St} {G6 : Hp} {Q : Shared → Prop}, Inv (X.suite a ((a, oe4) :: (X.pn ++ pins))) [] τ6 G6 s6 → (∀ s7, Inv X pins (τ6.set i none) G6 s7 → Q s7) →
              wpAny (model X.prog X.w) X.A (do bindName X.env n .none; unbindBehindTheSuite X.env n p2) (fun _ s7 => Q s7) X.xe s6 := fun {τ6 G6 Q} S6 hq => gone_ok (S6.unsuite iok) nd hi kd hq
          cases fl with
          | ret u =>
            obtain ⟨v6, _, _, S6, r6, q6⟩ := went
            exact gone S6 fun _ J7 => ⟨_, _, _, J7, r6, q6⟩
          | next =>
            obtain ⟨_, _, S6, q6⟩ := went
            exact gone S6 fun _ J7 => ⟨_, _, J7, q6⟩
          | brk =>
            obtain ⟨_, _, S6, q6⟩ := went
            exact gone S6 fun _ J7 => ⟨_, _, J7, q6⟩
          | cont =>
            obtain ⟨_, _, S6, q6⟩ := went
            exact gone S6 fun _ J7 => ⟨_, _, J7, q6⟩
    exact go hh w
  · cases fl with
    | ret u =>
      obtain ⟨v, τ, G, J', r, q⟩ := went
      exact ⟨v, τ, G, J'.ofTry iok, r, q⟩
    | next =>
      obtain ⟨τ, G, J', q⟩ := went
      exact wpAny_execs_nil ⟨τ, G, J'.ofTry iok, q⟩
    | brk =>
      obtain ⟨τ, G, J', q⟩ := went
      exact ⟨τ, G, J'.ofTry iok, q⟩
    | cont =>
      obtain ⟨τ, G, J', q⟩ := went
      exact ⟨τ, G, J'.ofTry iok, q⟩
end
end SG

/-! Several clauses, some of them `except C as e`, those without a name never the right ones. -/
namespace SG
open PySem PySem.Spec PyProof.Rows L2
/-- what the clauses wish of an exception, one after the other: slot i is the name's -/
def wAsN (K : PySem.W.Frag) (i : Nat) (Wo : WX) (D : Ends) : List (Value × Option Suit) → WX
  | [] => Wo
  | (k, none) :: r => fun cls d τ G => PySem.W.exmOne K cls k = some false ∧ wAsN K i Wo D r cls d τ G
  | (k, some ts) :: r => fun cls d τ G => ∃ b, PySem.W.exmOne K cls k = some b ∧ (b = true → ∀ a, G a = none → ts a cls d (goneE i D) (τ.set i (some (.ref a))) G) ∧ (b = false → wAsN K i Wo D r cls d τ G)
inductive HdsB (X : Cx) (n : Str) : List ExceptHandler → List (Value × Option Suit) → Prop
  | nil : HdsB X n [] []
  | cons {x : Str} {k : Value} {ts : Suit} {b0 : Stmt} {bs : List Stmt} {p1 p2 : Pos} {hs : List ExceptHandler} {l : List (Value × Option Suit)} (hk : Names X x k)
      (su : ∀ (a : Addr) (oe : Obj) (cls : Value) (d : Option Addr) (pn : List (Addr × Obj)), Zc cls d oe → (∃ vs, oe.data = .fields vs) → PSs (X.suite a ((a, oe) :: pn)) (b0 :: bs) (ts a cls d)) (r : HdsB X n hs l) :
      HdsB X n (.ExceptHandler (some (.Name x p1)) (some n) (b0 :: bs) p2 :: hs) ((k, some ts) :: l)
  | skip {x : Str} {k : Value} {b0 : Stmt} {bs : List Stmt} {p1 p2 : Pos} {hs : List ExceptHandler} {l : List (Value × Option Suit)} (hk : Names X x k) (r : HdsB X n hs l) : HdsB X n (.ExceptHandler (some (.Name x p1)) none (b0 :: bs) p2 :: hs) ((k, none) :: l)
section
variable {X : Cx} {n : Str} {i : Nat} {bd : List Stmt} {h0 : ExceptHandler} {hs : List ExceptHandler} {l : List (Value × Option Suit)} {pos : Pos} {tb : WX → TS} {Wo : WX}
theorem ps_try_asN (st : X.stack = X.env :: X.outer) (fr : X.env.frame = some X.env.locals) (nd : X.N.Nodup) (hi : X.N[i]? = some n) (kd : X.env.kindOf n = some .local) (tk : Takes X Wo)
    (hb : ∀ (W : WX) (pn : List (Addr × Obj)) (xe : Value → Shared → Prop), Takes (X.tr pn xe) W → PassesOwn (model X.prog X.w) X.A X.env xe → PSs (X.tr pn xe) bd (tb W)) (hh : HdsB X n (h0 :: hs) l) :
    PS X (.Try bd (h0 :: hs) [] [] pos) (fun D σ H => tb (wAsN X.K i Wo D l) D σ H) := by
  refine ⟨fun pins s σ H D I wish => ?_⟩
  have iok := I.ok
  have frames : X.A.frames = some (X.env :: X.outer) := iok.frames.trans (congrArg some st)
  have lc : Loc X.env.scope n := .inl kd
  refine wpAny_Try_except ?_
  refine wpAny_mono ((hb (wAsN X.K i Wo D l) (X.pn ++ pins) (fun e z => wpAny (model X.prog X.w) X.A (noteFrame e X.env)
    (fun _ z2 => wpAny (model X.prog X.w) X.A (setFlight e none) (fun _ z3 => wpAny (model X.prog X.w) X.A (handleBy e X.env (h0 :: hs)) (SP X pins D) X.xe z3) X.xe z2) X.xe z)
    (fun u s' caught => ?_) PassesOwn.looking).run [] s σ H D (I.toTry _) wish) (fun fl s1 went => ?_) (fun _ _ z => z)
  · obtain ⟨a, B, sI, _, τ, G, cls, d, rfl, J', nb, up, sky, na, os, ag, w⟩ := caught
    have J : Inv X pins τ G sI := J'.ofTry iok
    rw [st] at sky
    show wpAny (model X.prog X.w) X.A (noteFrame (.ref a) X.env) _ _ _
    refine Sky.land Zc.steady frames fr sky fun h3 fl3 up3 => ?_
    have up13 := up.trans up3
    have J3 : Inv X pins τ G { s' with heap := h3 } := J.landed nb fl3.1 up13 os ag
    obtain ⟨oe3, vs3, he3, hz3, hd3⟩ := fl3.there
    have apart : a ∉ frs (X.env :: X.outer) := fun hm => by
      obtain ⟨_, o2, e2, no⟩ := (fl3.2.2.1).mem hm
      cases he3.symm.trans e2
      exact no _ hd3
    have nL : a ≠ X.env.locals := fun z => apart (List.mem_filterMap.mpr ⟨X.env, List.mem_cons_self, fr.trans (congrArg some z.symm)⟩)
    have nF : a ∉ X.fs := fun hm => by
      obtain ⟨e, he, q⟩ := List.mem_filterMap.mp hm
      exact apart (List.mem_filterMap.mpr ⟨e, List.mem_cons_of_mem _ he, q⟩)
    have S3 := J3.suite he3 hd3 na nL nF
    have lt : PySem.W.Looks (model X.prog X.w) h3 (typeOf (.ref a)) cls := fun A Q E z k q => wpAny_typeOf_ref (k _ _ he3) (hz3.1.symm ▸ q)
    have go : ∀ {hs2 : List ExceptHandler} {l2 : List (Value × Option Suit)}, HdsB X n hs2 l2 → wAsN X.K i Wo D l2 cls d τ G → wpAny (model X.prog X.w) X.A (handleBy (.ref a) X.env hs2) (SP X pins D) X.xe { s' with heap := h3 } := by
      intro hs2 l2 hd2
      induction hd2 with
      | nil =>
        intro wn
        refine wpAny_handleBy_nil ?_
        obtain ⟨_, _, _, oe, vs, T, oT, ts2, he, hz, hdd, h1, hr⟩ := id fl3
        unfold PySem.passOn
        refine wpAny_bind (wpAny_field he hdd h1 ?_)
        rw [if_neg (by simp : ¬ ((Value.ref T == Value.none) = true))]
        have out : wpAny (model X.prog X.w) X.A (setFlight (.ref a) X.env.frame) (fun _ z4 => wpAny (model X.prog X.w) X.A (throw (.ref a) : Sem Flow) (SP X pins D) X.xe z4) X.xe { s' with heap := h3 } := by
          rw [fr]
          refine HandSPX.setFlight_upZ fl3 fun h4 hh4 up4 => wpAny_throw (tk _ _ ?_)
          refine ⟨a, B, sI, pins, τ, G, cls, d, rfl, J, nb, up13.trans up4, .inr (.inr ?_), na, os, ag, wn⟩
          rw [st]
          exact hh4
        first
          | exact wpAny_bind (wpAny_pure (wpAny_bind out))
          | exact wpAny_bind out
      | @skip x k b0 bs p1 p2 hs3 l3 hk r ih =>
        intro wc
        obtain ⟨eb, on⟩ := wc
        refine wpAny_handleBy_cons (codeAny_handlers_test ?_) (by intro q; cases q)
        have lm := PySem.W.exm_one (M := model X.prog X.w) (J3.kIn) lt eb
        have name : ∀ {Q : Value → Shared → Prop} {E : Value → Shared → Prop}, Q k { s' with heap := h3 } → wpAny (model X.prog X.w) (X.A.mark (some (.ref a))) (eval (.Name x p1) X.env) Q E { s' with heap := h3 } := fun {Q E} q => by
          obtain ⟨g1, g2, g3 | ⟨g3, g4, g5⟩⟩ := hk
          · exact ld_glob (X := X.suite a ((a, oe3) :: (X.pn ++ pins))) S3 g1 g3 q g2
          · exact ld_blt (X := X.suite a ((a, oe3) :: (X.pn ++ pins))) S3 g1 g3 g4 q g5 g2
        refine name (lm.here ?_)
        show wpAny _ X.A (handleBy (.ref a) X.env hs3) _ _ _
        exact ih on
      | @cons x k ts b0 bs p1 p2 hs3 l3 hk su r ih =>
        intro wc
        obtain ⟨b, eb, yes, no⟩ := wc
        refine wpAny_handleBy_cons (codeAny_handlers_test ?_) (by intro q; cases q)
        have lm := PySem.W.exm_one (M := model X.prog X.w) (J3.kIn) lt eb
        have name : ∀ {Q : Value → Shared → Prop} {E : Value → Shared → Prop}, Q k { s' with heap := h3 } → wpAny (model X.prog X.w) (X.A.mark (some (.ref a))) (eval (.Name x p1) X.env) Q E { s' with heap := h3 } := fun {Q E} q => by
          obtain ⟨g1, g2, g3 | ⟨g3, g4, g5⟩⟩ := hk
          · exact ld_glob (X := X.suite a ((a, oe3) :: (X.pn ++ pins))) S3 g1 g3 q g2
          · exact ld_blt (X := X.suite a ((a, oe3) :: (X.pn ++ pins))) S3 g1 g3 g4 q g5 g2
        refine name (lm.here ?_)
        cases b with
        | false =>
          show wpAny _ X.A (handleBy (.ref a) X.env hs3) _ _ _
          exact ih (no rfl)
        | true =>
          refine codeAny_handlers_suite_as ?_
          refine HandSPX.lands_againZ fl3 fun h4 fl4 up4 => ?_
          have J4 : Inv X pins τ G { s' with heap := h4 } := J.landed nb fl4.1 (up13.trans up4) os ag
          obtain ⟨oe4, vs4, he4, hz4, hd4⟩ := fl4.there
          refine store_ok (X := X.suite a ((a, oe4) :: (X.pn ++ pins))) (v := .ref a) (J4.suite he4 hd4 na nL nF) nd hi lc rfl (fun s5 S5 => ?_) (.inr kd)
          refine wpAny_mono ((su a oe4 cls d (X.pn ++ pins) hz4 ⟨_, hd4⟩).run [] s5 _ G _ S5 (yes rfl a na)) (fun fl s6 went => ?_) (fun _ _ z => z.elim)
          have gone : ∀ {τ6 : L2.St} {G6 : Hp} {Q : Shared → Prop}, Inv (X.suite a ((a, oe4) :: (X.pn ++ pins))) [] τ6 G6 s6 → (∀ s7, Inv X pins (τ6.set i none) G6 s7 → Q s7) →
              wpAny (model X.prog X.w) X.A (do bindName X.env n .none; unbindBehindTheSuite X.env n p2) (fun _ s7 => Q s7) X.xe s6 := fun {τ6 G6 Q} S6 hq => gone_ok (S6.unsuite iok) nd hi kd hq
          cases fl with
          | ret u =>
            obtain ⟨v6, _, _, S6, r6, q6⟩ := went
            exact gone S6 fun _ J7 => ⟨_, _, _, J7, r6, q6⟩
          | next =>
            obtain ⟨_, _, S6, q6⟩ := went
            exact gone S6 fun _ J7 => ⟨_, _, J7, q6⟩
          | brk =>
            obtain ⟨_, _, S6, q6⟩ := went
            exact gone S6 fun _ J7 => ⟨_, _, J7, q6⟩
          | cont =>
            obtain ⟨_, _, S6, q6⟩ := went
            exact gone S6 fun _ J7 => ⟨_, _, J7, q6⟩
    exact go hh w
  · cases fl with
    | ret u =>
      obtain ⟨v, τ, G, J', r, q⟩ := went
      exact ⟨v, τ, G, J'.ofTry iok, r, q⟩
    | next =>
      obtain ⟨τ, G, J', q⟩ := went
      exact wpAny_execs_nil ⟨τ, G, J'.ofTry iok, q⟩
    | brk =>
      obtain ⟨τ, G, J', q⟩ := went
      exact ⟨τ, G, J'.ofTry iok, q⟩
    | cont =>
      obtain ⟨τ, G, J', q⟩ := went
      exact ⟨τ, G, J'.ofTry iok, q⟩
end
end SG

/-! Data that stays while the deck is drawn from; small data. -/
namespace SG
open PySem PySem.Spec PyProof.Rows L2
section
variable {K : PySem.W.Frag} {d l : Addr} {c : Nat} {H H2 : Hp}
def St (K : PySem.W.Frag) (d l : Addr) (H : Hp) (x : V) (D : PyData) : Prop := ∀ H2, Kept d l H H2 → Dp K H2 x D
def StA (K : PySem.W.Frag) (d l : Addr) (H : Hp) (xs : List V) (ds : List PyData) : Prop := ∀ H2, Kept d l H H2 → DpAll K H2 xs ds
theorem St.at {x : V} {D : PyData} (h : St K d l H x D) : Dp K H x D := h H (Kept.refl _ _ _)
theorem St.mono {x : V} {D : PyData} (h : St K d l H x D) (k : Kept d l H H2) : St K d l H2 x D := fun H3 k3 => h H3 (k.trans k3)
theorem StA.mono {xs : List V} {ds : List PyData} (h : StA K d l H xs ds) (k : Kept d l H H2) : StA K d l H2 xs ds := fun H3 k3 => h H3 (k.trans k3)
theorem St.int (i : Int) : St K d l H (.int i) (.int i) := fun _ _ => .int i
theorem St.bl (b : Bool) : St K d l H (.bl b) (.bool b) := fun _ _ => .bl b
theorem St.str (t : Str) : St K d l H (.str t) (.str t) := fun _ _ => .str t
theorem St.non : St K d l H .non .none := fun _ _ => .non
theorem St.tup {a : Addr} {xs : List V} {ds : List PyData} (D : Deck H d l c) (h : SqT K H a xs) (t : StA K d l H xs ds) : St K d l H (.ref a) (.tuple ds) := fun H3 k => .tup (k.tup D h) (t H3 k)
theorem St.lst {a : Addr} {xs : List V} {ds : List PyData} (h : H a = some (.lst xs)) (n1 : a ≠ d) (n2 : a ≠ l) (t : StA K d l H xs ds) : St K d l H (.ref a) (.list ds) := fun H3 k => .lst (SqL.of (k _ _ h n1 n2)) (t H3 k)
theorem StA.nil : StA K d l H [] [] := fun _ _ => .nil
theorem StA.cons {x : V} {xs : List V} {D : PyData} {ds : List PyData} (a : St K d l H x D) (b : StA K d l H xs ds) : StA K d l H (x :: xs) (D :: ds) := fun H3 k => .cons (a H3 k) (b H3 k)
theorem StA.app {xs ys : List V} {ds es : List PyData} (a : StA K d l H xs ds) (b : StA K d l H ys es) : StA K d l H (xs ++ ys) (ds ++ es) := fun H3 k => dpA_app (a H3 k) (b H3 k)
theorem StA.ints (ns : List Int) : StA K d l H (ns.map V.int) (dI ns) := fun _ _ => dpInts ns
end
/-! ### small data -/
structure Sm (n b : Nat) (D : PyData) : Prop where
  lay : D.canLay0 = true
  dep : D.depth ≤ n
  tell : tellable D = true
  short : D.leavesShort 4302 = true
  bulk : D.bulk ≤ b
structure SmA (n b : Nat) (ds : List PyData) : Prop where
  lay : PyData.canLayAll0 ds = true
  dep : PyData.depthAll ds ≤ n
  tell : tellableAll ds = true
  short : PyData.leavesShortAll 4302 ds = true
  bulk : PyData.bulkAll ds ≤ b
theorem Sm.ok {n b : Nat} {D : PyData} (h : Sm n b D) (hn : n ≤ 50) (hb : b ≤ 3000) : OkD D := ⟨h.lay, Nat.le_trans h.dep hn, h.tell, h.short, Nat.le_trans h.bulk hb⟩
theorem Sm.mono {n b m e : Nat} {D : PyData} (h : Sm n b D) (hn : n ≤ m) (hb : b ≤ e) : Sm m e D := ⟨h.lay, Nat.le_trans h.dep hn, h.tell, h.short, Nat.le_trans h.bulk hb⟩
theorem SmA.mono {n b m e : Nat} {ds : List PyData} (h : SmA n b ds) (hn : n ≤ m) (hb : b ≤ e) : SmA m e ds := ⟨h.lay, Nat.le_trans h.dep hn, h.tell, h.short, Nat.le_trans h.bulk hb⟩
theorem SmA.tuple {n b : Nat} {ds : List PyData} (h : SmA n b ds) : Sm (n + 1) b (.tuple ds) :=
  ⟨by simpa only [PyData.canLay0] using h.lay, by simp only [PyData.depth]; have := h.dep; omega, by simpa only [tellable] using h.tell, by simpa only [PyData.leavesShort] using h.short, by simpa only [PyData.bulk] using h.bulk⟩
theorem SmA.list {n b : Nat} {ds : List PyData} (h : SmA n b ds) : Sm (n + 1) b (.list ds) :=
  ⟨by simpa only [PyData.canLay0] using h.lay, by simp only [PyData.depth]; have := h.dep; omega, by simpa only [tellable] using h.tell, by simpa only [PyData.leavesShort] using h.short, by simpa only [PyData.bulk] using h.bulk⟩
theorem SmA.nil (n : Nat) : SmA n 0 [] := ⟨by simp [PyData.canLayAll0], by simp [PyData.depthAll], by simp [tellableAll], by simp [PyData.leavesShortAll], by simp [PyData.bulkAll]⟩
theorem SmA.cons {n b e : Nat} {D : PyData} {ds : List PyData} (h : Sm n b D) (t : SmA n e ds) : SmA n (b + 1 + e) (D :: ds) :=
  ⟨by simp only [PyData.canLayAll0, h.lay, t.lay, Bool.and_self], by simp only [PyData.depthAll]; exact Nat.max_le.mpr ⟨h.dep, t.dep⟩, by simp only [tellableAll, h.tell, t.tell, Bool.and_self], by simp only [PyData.leavesShortAll, h.short, t.short, Bool.and_self],
    by simp only [PyData.bulkAll]; have := h.bulk; have := t.bulk; omega⟩
theorem SmA.app {n e : Nat} {es : List PyData} (t : SmA n e es) : ∀ {ds : List PyData} {b : Nat}, SmA n b ds → SmA n (b + e) (ds ++ es)
  | [], b, h => t.mono (Nat.le_refl _) (by omega)
  | D :: ds, b, h => by
    have l1 : D.canLay0 = true ∧ PyData.canLayAll0 ds = true := by simpa only [PyData.canLayAll0, Bool.and_eq_true] using h.lay
    have l2 : tellable D = true ∧ tellableAll ds = true := by simpa only [tellableAll, Bool.and_eq_true] using h.tell
    have l3 : D.leavesShort 4302 = true ∧ PyData.leavesShortAll 4302 ds = true := by simpa only [PyData.leavesShortAll, Bool.and_eq_true] using h.short
    have l4 : D.depth ≤ n ∧ PyData.depthAll ds ≤ n := by have := h.dep; simp only [PyData.depthAll] at this; exact Nat.max_le.mp this
    have l5 : D.bulk + 1 + PyData.bulkAll ds ≤ b := by have := h.bulk; simpa only [PyData.bulkAll] using this
    have z := SmA.app t (ds := ds) (b := PyData.bulkAll ds) ⟨l1.2, l4.2, l2.2, l3.2, Nat.le_refl _⟩
    exact (SmA.cons ⟨l1.1, l4.1, l2.1, l3.1, Nat.le_refl _⟩ z).mono (Nat.le_refl _) (by omega)
theorem Sm.int {i : Int} (h : i.natAbs < 10 ^ 4300) : Sm 0 0 (.int i) := by
  have z := OkD.int h
  exact ⟨z.lay, by simp [PyData.depth], z.tell, z.short, by simp [PyData.bulk]⟩
theorem SmA.ints : ∀ {ns : List Int}, (∀ n ∈ ns, n.natAbs < 10 ^ 4300) → SmA 0 ns.length (dI ns)
  | [], _ => .nil 0
  | n :: ns, h => (SmA.cons (Sm.int (h n List.mem_cons_self)) (SmA.ints fun m hm => h m (List.mem_cons_of_mem _ hm))).mono (Nat.le_refl _) (by simp; omega)
end SG

/-! Texts: joined signs; lists of values that are drawn. -/
namespace SG
open PySem PySem.Spec PyProof.Rows L2 TL
open SX (S S_tl S_len)
def rJoin (K : PySem.W.Frag) : V → List V → Hp → VK → Prop := fun x xs H Q => ∃ a p, ∃ ys : List Str, x = .str a ∧ xs = [.ref p] ∧ (SqL K H p (ys.map V.str) ∨ SqT K H p (ys.map V.str)) ∧ (ys.map (·.length)).sum + ys.length * a.length ≤ 16777216 ∧ Q (.str (Txt.join a ys)) H
theorem k_join {X : Cx} {K : PySem.W.Frag} {o e : Expr} {to te : TE} {apos pos : Pos} (ho : PE X o to) (he : PE X e te) (eK : X.K = K := by rfl) (hs : starEach [e] X.env = [(false, eval e X.env)] := by rfl) (hbase : attributeBase o "join" X.env (eval o X.env) = eval o X.env := by rfl) (hline : (apos.endLine == pos.line) = true := by rfl) :
    PE X (.Call (.Attribute o "join" apos) [e] [] pos) (tM1 (rJoin K) to te) := eK ▸ pe_join ho he hs hbase hline
/-- single signs, joined -/
theorem join_signs : ∀ gs : List Nat, Txt.join "" (gs.map fun g => (⟨#[g]⟩ : Str)) = S gs := by
  intro gs
  rw [join_eq]
  have z := tl_join "" (gs.map fun g => (⟨#[g]⟩ : Str))
  have e : ∀ ls : List Nat, joinL (tl ("" : Str)) (ls.map fun g => [g]) = ls := by
    intro ls
    induction ls with
    | nil => rfl
    | cons a r ih =>
      cases r with
      | nil => rfl
      | cons b r2 =>
        show [a] ++ (tl ("" : Str) ++ joinL (tl ("" : Str)) ((b :: r2).map fun g => [g])) = _
        rw [ih]
        rfl
  rw [List.map_map] at z
  have z2 := z.trans (e gs)
  exact (S_tl _).symm.trans (congrArg S z2)
/-- a list of values that are drawn, turn by turn -/
theorem lc_drawsV {d l D : Addr} {c n s : Nat} {te : TE} {σ : L2.St} {H1 : Hp} {Qd : Hp → Prop} {B : V → Prop} (D0 : Deck H1 d l c) (hD : H1 D = none) (hn : n ≤ 1000)
    (turn : ∀ (i : Nat) (H2 : Hp), i < n → Deck H2 d l (c + i) → Kept d l H1 H2 → ∀ R : VK, (∀ (x : V) (H3 : Hp), B x → Deck H3 d l (c + i + 1) → Kept d l H2 H3 → R x H3) → te ((wipe σ [s]).set s (some (.int (0 + i)))) H2 R)
    (done : ∀ (xs : List V) (H2 : Hp), xs.length = n → (∀ x ∈ xs, B x) → H2 D = some (.lst xs) → Deck H2 d l (c + n) → Kept d l H1 H2 → Qd H2) :
    ∃ W : Nat → Nat → Hp → Prop, (∃ m, W 0 m (upd H1 D (.lst []))) ∧ ∀ i m H, W i m H →
      ((Itr 0 n).stop i H ∧ Qd H) ∨ ((Itr 0 n).go i H ∧ ∃ Nx : Hp → Prop, (∀ H2, Nx H2 → ∃ m2, m2 < m ∧ W (i + 1) m2 H2) ∧ ∀ x H2, (Itr 0 n).yld i H x H2 → gName s x (wipe σ [s]) H2 fun σ2 H3 => wipe σ2 [s] = wipe σ [s] ∧ tYes σ2 H3 fun b H4 =>
        if b = true then te σ2 H4 fun y H5 => ∃ acc, H5 D = some (.lst acc) ∧ acc.length < sizeLine ∧ Nx (upd H5 D (.lst (acc ++ [y]))) else Nx H4) := by
  obtain ⟨nd, nl⟩ := D0.ne hD
  refine lc_range (fun i H2 => ∃ xs : List V, xs.length = i ∧ (∀ x ∈ xs, B x) ∧ H2 D = some (.lst xs) ∧ Deck H2 d l (c + i) ∧ Kept d l H1 H2) ?_ ?_ ?_
  · exact ⟨[], rfl, (fun _ h => absurd h List.not_mem_nil), upd_same, D0.upd hD, .of (same_new hD)⟩
  · rintro i H2 hi ⟨xs, hx, hB, hD2, D2, k2⟩
    refine ⟨wipe1 _ _ _, ?_⟩
    refine yesI ?_
    refine turn i H2 hi D2 k2 _ fun x H3 hb D3 k3 => ⟨xs, k3 _ _ hD2 nd nl, ?_, xs ++ [x], by simp [hx], fun y hy => ?_, upd_same, ?_, ?_⟩
    · rw [hx]
      exact small1000 (by omega)
    · rcases List.mem_append.mp hy with h | h
      · exact hB y h
      · rw [List.mem_singleton.mp h]; exact hb
    · obtain ⟨cs, m, k, h1, h2, h3⟩ := D3
      exact ⟨cs, m, k, by rw [upd_ne nd.symm]; exact h1, by rw [upd_ne nl.symm]; exact h2, h3⟩
    · intro b o e h1 h2
      rw [upd_ne (ne_of_none e hD)]
      exact k3 _ _ (k2 _ _ e h1 h2) h1 h2
  · rintro H2 ⟨xs, hx, hB, hD2, D2, k2⟩
    exact done xs H2 hx hB hD2 D2 k2
/-- values that are single signs -/
theorem signs_of : ∀ {xs : List V} {p : Nat → Prop}, (∀ x ∈ xs, ∃ g, p g ∧ x = .str ⟨#[g]⟩) → ∃ gs : List Nat, xs = (gs.map fun g => (⟨#[g]⟩ : Str)).map V.str ∧ ∀ g ∈ gs, p g
  | [], _, _ => ⟨[], rfl, fun _ h => nomatch h⟩
  | x :: xs, p, h => by
    obtain ⟨g, hg, rfl⟩ := h x List.mem_cons_self
    obtain ⟨gs, rfl, hs⟩ := signs_of (xs := xs) (p := p) fun y hy => h y (List.mem_cons_of_mem _ hy)
    refine ⟨g :: gs, rfl, fun y hy => ?_⟩
    rcases List.mem_cons.mp hy with rfl | hy
    · exact hg
    · exact hs y hy
theorem sum_ones : ∀ gs : List Nat, ((gs.map fun g => (⟨#[g]⟩ : Str)).map (·.length)).sum = gs.length
  | [] => rfl
  | g :: gs => by
    have ih := sum_ones gs
    simp only [List.map_cons, List.sum_cons, List.length_cons, ih]
    show 1 + gs.length = _
    omega
end SG

/-! enumerate of a text from a number on; an integer's figures of base 2 in an f-string. -/
namespace SG
section
open PySem PyProof.Rows Builtin
def fB : PySem.Builtin.Float.FormatSpec := { fill := 32, align := 62, type := some 98 }
theorem fB_ok : PySem.Builtin.Float.parseFormatSpec ("b" : PySem.Str).cps.toList "int" 62 = .ok fB := by
  rfl
section
variable {prog : Program} {w : World} {A : Around} {E : Value → Shared → Prop} {s : Shared} {env : Env}
theorem mk_eq {M : Model} {X T : PySem.Str} {Q : Value → Shared → Prop} (e : X = T) (hL : T.length ≤ sizeLine) (h : Q (.str T s.toks) { s with toks := s.toks + 1 }) : wpAny M A (mkStr X) Q E s := by
  subst e
  exact wpAny_mkStr h hL
theorem formatField_int_b2 {n : Nat} {t : Tok} {spec : PySem.Str} {f : PySem.Builtin.Float.FormatSpec} {Q : Value → Shared → Prop} (hl : (Nat.toDigits 2 n).length ≤ 1000) (hd : Nat.toDigits 2 n ≠ [])
    (hp : PySem.Builtin.Float.parseFormatSpec spec.cps.toList "int" 62 = .ok f) (hty : f.type = some 98) (hpr : f.precision = none) (hz : f.noNeg0 = false) (hal : f.alt = false) (hw : f.width = none) (hgr : f.grouping = none) (hsg : f.sign = none) (hfi : f.fill = 32) (hag : f.align = 62) (hne : (spec.length == 0) = false) (hsz : spec.length ≤ sizeLine)
    (hasc : ((spec.cps.toList.drop 1).any (· ≥ 128) || (spec.cps.getD 0 0 ≥ 128 && !([60, 62, 61, 94] : List Nat).contains (spec.cps.getD 1 0))) = false)
    (h : Q (.str ⟨((Nat.toDigits 2 n).map Char.toNat).toArray⟩ (s.toks + 1)) { s with toks := s.toks + 1 + 1 }) :
    wpAny (model prog w) A (formatField (.int n t) spec) Q E s := by
  show wpAny _ _ (holding [.int n t] (pyFormat (.int n t) spec)) Q E s
  refine wpAny_holding ?_
  unfold pyFormat
  refine wpAny_bind (wpAny_mkStr ?_ hsz)
  refine wpAny_bind (m := callSpecial? (.int n t) (Str.ofString "__format__") [.str spec s.toks]) (wpAny_callSpecial?_slot (name := Str.ofString "__format__") (typeIs_int _ n t) slot_int_format ?_)
  refine wpAny_call (codeAny_call_builtin slot_int_format.plain entry_int_format (slot_int_format.check _ _ _ _ _ _ _ _ (typeIs_int _ n t) (args_int_format _ _) ?_))
  unfold Builtin.«int.__format__»
  simp only [selfAndOne, noKeywords, Int.intOfSelf, asInt?, asStr?, List.isEmpty_nil, if_true, pure_bind, bind_pure, bind_assoc, hne, hasc, Bool.false_eq_true, if_false,
    show (Value.str spec s.toks == Value.none) = false from rfl]
  refine wpAny_bind (wpAny_typeNameOf (T := "str") (typeIs_str _ _ _) (by decide) fun _ => ?_)
  first | refine wpAny_bind (wpAny_typeNameOfCut_int ?_) | refine wpAny_bind (wpAny_typeNameOf_int ?_)
  simp only [hp, hty, Option.getD_some]
  rw [if_pos (by decide)]
  show wpAny _ _ (if _ then _ else _) _ _ _
  rw [if_neg (by simp [hpr])]
  show wpAny _ _ (if _ then _ else _) _ _ _
  rw [if_neg (by simp [hz])]
  show wpAny _ _ (if _ then _ else _) _ _ _
  rw [if_neg (by decide)]
  show wpAny _ _ (if _ then _ else _) _ _ _
  rw [if_neg (by decide)]
  show wpAny _ _ (if _ then _ else _) _ _ _
  rw [if_neg (by simp [hw])]
  show wpAny _ _ (retStr _) _ _ _
  unfold retStr
  have e : ∀ d : Nat, (if ((98 : Nat) == 88) = true then (Nat.digitChar d).toUpper else Nat.digitChar d).toNat = (Nat.digitChar d).toNat := fun d => rfl
  refine wpAny_bind (mk_eq (T := ⟨((Nat.toDigits 2 n).map Char.toNat).toArray⟩) ?_ ?_ (wpAny_pure ?_))
  · rw [if_neg (show ¬ f.alt = true by rw [hal]; exact Bool.false_ne_true)]
    have e1 : (List.map (fun c : Char => (if ((98 : Nat) == 88) = true then c.toUpper else c).toNat) (Nat.toDigits 2 (n : Int).natAbs)) = (Nat.toDigits 2 n).map Char.toNat := rfl
    have e2 : decide ((n : Int) < 0) = false := decide_eq_false (by omega)
    have e3 : ((Nat.toDigits 2 n).map Char.toNat).isEmpty = false := by
      cases q : Nat.toDigits 2 n with
      | nil => exact absurd q hd
      | cons _ _ => rfl
    rw [e1, e2]
    have ef : f = fB := by
      cases f
      simp_all [fB]
    clear hp hty hpr hz hal hw hgr hsg hfi hag h
    subst ef
    generalize (Nat.toDigits 2 n).map Char.toNat = ds at e3 ⊢
    cases ds with
    | nil => cases e3
    | cons a r =>
      conv => lhs; whnf
      have z : ((-1 : Int) - ((0 : Nat) + (0 : Nat) + (0 : Nat)) - (((a :: r).length : Nat) : Int)).toNat = 0 := by omega

      simp [fB]
      omega
  · show ((Nat.toDigits 2 n).map Char.toNat).toArray.size ≤ sizeLine
    rw [List.size_toArray, List.length_map]
    exact Nat.le_trans hl (by decide)
  · dsimp only
    refine wpAny_bind (wpAny_isInstance (typeIs_str _ _ _) isSubtype_str_str (wpAny_pure ?_))
    exact h
theorem formatField_int_b {n : Nat} {t : Tok} {Q : Value → Shared → Prop} (hl : (Nat.toDigits 2 n).length ≤ 1000) (hd : Nat.toDigits 2 n ≠ [])
    (h : Q (.str ⟨((Nat.toDigits 2 n).map Char.toNat).toArray⟩ (s.toks + 1)) { s with toks := s.toks + 1 + 1 }) :
    wpAny (model prog w) A (formatField (.int n t) "b") Q E s :=
  formatField_int_b2 hl hd fB_ok rfl rfl rfl rfl rfl rfl rfl rfl rfl (by decide +kernel) (by decide) (by decide +kernel) h
end
end
end SG
namespace SG
open PySem PySem.Spec PyProof.Rows L2
section
variable {M : Model} {A : Around} {E : Value → Shared → Prop} {s : Shared} {env : Env}
theorem callWith_tyKwB {pos : Pos} {T : String} {first : List Value} {args : List (Bool × Sem Value)} {keywords : List (Option Str × Sem Value)} {Q : Value → Shared → Prop}
    (hplain : args.any (·.1) = false) (hkw : keywords.any (·.1.isNone) = false)
    (h : wpAny M A (evalArgs (.type T) true args keywords) (fun a s₁ => wpAny M A (call (.type T) (first ++ a.pos) a.kw) Q E s₁) E s) :
    wpAny M A (callWith pos (.type T) first args keywords) Q E s := by
  unfold callWith
  refine wpAny_bind (wpAny_holding (wpAny_mono h (fun a s₁ h₁ => wpAny_bind (wpAny_standAt ?_)) fun _ _ x => x))
  simp only [hplain, hkw, Bool.or_false]
  refine wpAny_bind (wpAny_pure ?_)
  exact wpAny_bind (wpAny_mono h₁ (fun r s₂ hr => wpAny_bind (wpAny_holding (wpAny_point (wpAny_pure hr)))) fun _ _ x => x)
theorem callWith_tyKw {pos : Pos} {T : String} {e : Expr} {rest : List Expr} {kws : List Keyword} {Q : Value → Shared → Prop}
    (h : wpAny M A (spliced (backTo pos (starEach (e :: rest) env))) (fun vs s₁ => wpAny M A (evalAll ((backToKw pos (keywordEach kws env)).map (·.2)))
      (fun kvs s₂ => wpAny M A (call (.type T) vs (((backToKw pos (keywordEach kws env)).filterMap (·.1)).zip kvs)) Q E s₂) E s₁) E s)
    (he : backTo pos (starEach (e :: rest) env) = (false, eval e env) :: backTo pos (starEach rest env) := by rfl)
    (hplain : (backTo pos (starEach (e :: rest) env)).any (·.1) = false := by rfl)
    (hall : (backToKw pos (keywordEach kws env)).all (·.1.isSome) = true := by rfl)
    (hkw : (backToKw pos (keywordEach kws env)).any (·.1.isNone) = false := by rfl) :
    wpAny M A (callWith pos (.type T) [] (backTo pos (starEach (e :: rest) env)) (backToKw pos (keywordEach kws env))) Q E s := by
  refine callWith_tyKwB hplain hkw ?_
  rw [he] at h ⊢
  exact evalArgs_kwB hall h
end
theorem Draws.shift {prog : Program} {w : World} {A : Around} {it : Addr} {fp : List Addr} {n : Nat} {P : Nat → Value → Prop} {St : Nat → Heap → Prop} (D : Draws prog w A it fp n P St) (k : Nat) :
    Draws prog w A it fp (k + n) (fun j v => P (j - k) v) (fun j h => k ≤ j ∧ St (j - k) h) where
  live := fun _ _ st => D.live _ _ st.2
  frame := fun _ _ _ st hk => ⟨st.1, D.frame _ _ _ st.2 hk⟩
  item := fun i s Q E hi st hQ => D.item (i - k) s Q E (by omega) st.2 fun v h' tk p st' sb => hQ v h' tk p ⟨by omega, by rw [show i + 1 - k = i - k + 1 by omega]; exact st'⟩ sb
  done := fun s Q E st hE => D.done s Q E (by rw [show n = k + n - k by omega]; exact st.2) hE
/-- a text's signs, each behind its number, from k on, in a new pair -/
def IteS (x : Str) (k : Nat) : It :=
  ⟨fun i _ => i < x.cps.size, fun i Hx v H2 => ∃ T c, v = .ref T ∧ Hx T = none ∧ x.cps[i]? = some c ∧ H2 = upd Hx T (.tup [.int ((k + i : Nat) : Int), .str ⟨#[c]⟩]), fun i _ => x.cps.size ≤ i⟩
theorem turn_enumS {P : Program} {w : World} {K : PySem.W.Frag} {elts : List Expr} {kk : Nat} {tpos : Pos} (x : Str) (t : Tok) (k : Nat) (e it : Addr) :
    Turn P w K (.Tuple elts kk tpos) (IteS x k) [e, it] e (fun i h => (∃ old, IsEnum h e it ((k + i : Nat) : Int) old) ∧ h.IsStrIter it (strIterType x) x t i ∧ e ≠ it) where
  mem := by simp
  obj := fun i h q b hb => by
    obtain ⟨⟨old, he⟩, ⟨o, ho, hc, hd⟩, _⟩ := q
    rcases (show b = e ∨ b = it by simpa using hb) with z | z
    · rw [z]; exact ⟨_, he, fun v q => nomatch q⟩
    · rw [z]; exact ⟨o, ho, fun v q => by rw [hd] at q; cases q⟩
  keep := fun i h h2 q kp => by
    obtain ⟨⟨old, he⟩, ⟨o, ho, r⟩, hne⟩ := q
    exact ⟨⟨old, kp e (by simp) _ he⟩, ⟨o, kp it (by simp) o ho, r⟩, hne⟩
  item := by
    intro X hP hw hK hc i pins st σ Hx E I hf q hg
    subst hP hw hK
    obtain ⟨⟨old, he⟩, hit, hne⟩ := q
    have hel : e < st.heap.objs.size := Heap.lt_size he
    have hil : it < st.heap.objs.size := by obtain ⟨_, z, _⟩ := hit; exact Heap.lt_size z
    have hi : i < x.cps.size := hg
    refine wpAny_pyNext_enum_itemD (Draws.shift (Draws.text (prog := X.prog) (w := X.w) (A := X.A.in1) (I.ok.hd hc) it x t) k) (i := k + i) he ⟨Nat.le_add_right _ _, by rw [Nat.add_sub_cancel_left]; exact hit⟩ (by omega) hne (by simp [hne]) fun y h1 tk hy ho hs1 hT hsz hk => ?_
    obtain ⟨c, u, hcx, rfl⟩ := hy
    rw [Nat.add_sub_cancel_left] at hcx
    have hs2 := hs1.2
    rw [show k + i + 1 - k = i + 1 by omega] at hs2
    refine ⟨_, rfl, wpAny_letOwnedTupleGo_enum (s := { st with heap := h1, toks := tk + 1 }) ho fun h2 he2 sb => ?_⟩
    have hT2 : h2.get? st.heap.objs.size = some { cls := .type "tuple", data := .seq #[.int ((k + i : Nat) : Int) tk, .str ⟨#[c]⟩ u] } := (sb.2 _ (Nat.ne_of_gt hel)).trans hT
    have new : ObjOk X.prog X.w (upd Hx st.heap.objs.size (.tup [.int ((k + i : Nat) : Int), .str ⟨#[c]⟩])) h2 st.heap.objs.size (.tup [.int ((k + i : Nat) : Int), .str ⟨#[c]⟩]) :=
      ⟨by show 2 ≤ sizeLine; decide, [.int ((k + i : Nat) : Int) tk, .str ⟨#[c]⟩ u], .cons ⟨_, rfl⟩ (.cons ⟨_, rfl⟩ .nil), ⟨_, hT2, rfl, _, rfl⟩⟩
    have I1 : L2.Inv X pins σ (upd Hx st.heap.objs.size (.tup [.int ((k + i : Nat) : Int), .str ⟨#[c]⟩])) { st with heap := h2, toks := tk + 1 } :=
      I.turnedNew (ch := [e, it]) (fun b ob hb z => (sb.2 b (fun z => hb (by simp [z]))).trans (hk b ob (fun z => hb (by simp [z])) (fun z => hb (by simp [z])) z)) hf (Nat.le_refl _) new
    refine ⟨.ref st.heap.objs.size, _, I1, rfl, ⟨_, c, rfl, I.hok.fresh (Nat.le_refl _), hcx, rfl⟩, ⟨⟨.str ⟨#[c]⟩ u, ?_⟩, ?_, hne⟩, fun b hb => ?_⟩
    · rw [show ((k + (i + 1) : Nat) : Int) = ((k + i : Nat) : Int) + 1 by omega]
      exact he2
    · obtain ⟨o, ho, r⟩ := hs2
      exact ⟨o, (sb.2 it (Ne.symm hne)).trans ho, r⟩
    · have hb2 : b < st.heap.objs.size := by
        rcases (show b = e ∨ b = it by simpa using hb) with z | z
        · rw [z]; exact hel
        · rw [z]; exact hil
      rw [upd_ne (Nat.ne_of_lt hb2)]
      exact (hf b hb).1
  done := by
    intro X hP hw hK hc i pins st σ Hx E I hf q hg
    subst hP hw hK
    obtain ⟨⟨old, he⟩, hit, hne⟩ := q
    obtain ⟨f0, f1, f2, f3, f4, f5⟩ := hf it (by simp)
    have hx : x.cps[i]? = none := Array.getElem?_eq_none hg
    have D : Draws X.prog X.w X.A.in1 it [it] i (fun _ _ => True) (fun j h => j = i ∧ h.IsStrIter it (strIterType x) x t i) :=
      { live := fun _ _ z => by obtain ⟨_, ⟨o, ho, _⟩⟩ := z; exact ⟨o, ho⟩
        frame := fun _ _ _ z hk => ⟨z.1, by obtain ⟨o, ho, r⟩ := z.2; exact ⟨o, hk it (by simp) o ho, r⟩⟩
        item := fun j s Q E hj z => absurd z.1 (Nat.ne_of_lt hj)
        done := fun s Q E z hE => ?dn }
    case dn =>
      obtain ⟨_, z⟩ := z
      revert z
      unfold strIterType
      cases ha : x.cps.all (· < 128)
      · simp only [Bool.false_eq_true, if_false]
        intro z
        exact wpAny_nextOf_wide_end (I.ok.hd hc) z hx hE
      · simp only [if_true]
        intro z
        exact wpAny_nextOf_ascii_end (I.ok.hd hc) z hx hE
    exact wpAny_pyNext_enum_endD D he ⟨rfl, hit⟩ fun h2 eb => ⟨rfl, I.turned (t' := st.toks) (fun b o hb q => eb b o hb q) f0 f1 f3 f4 f5⟩
  self := fun A i st Q E q h => by
    obtain ⟨⟨_, he⟩, _⟩ := q
    exact wpAny_pyIter_enum he h
def iEnumS (ta tk : TA) : TI := fun σ Hx R => ta σ Hx fun vs H1 => tk σ H1 fun ks H2 => ∃ (x : Str) (k : Nat), vs = [.str x] ∧ ks = [.int k] ∧ k < 1000000 ∧ R (IteS x k) H2
theorem pi_enumS {X : Cx} {e c : Expr} {ta tk : TA} {p pos tpos kpos : Pos} {elts : List Expr} {kk : Nat} (hg : Gl X "enumerate") (hm : X.mg "enumerate" = none) (ha : PA X [e] ta) (hk : PK X [⟨some "start", c, kpos⟩] tk) (hs : starEach [e] X.env = [(false, eval e X.env)] := by rfl) :
    PI X (.Tuple elts kk tpos) (.Call (.Name "enumerate" p) [e] [⟨some "start", c, kpos⟩] pos) (iEnumS ta tk) := by
  refine ⟨fun pins st σ Hx R I h => ?_⟩
  refine wpAny_Call_Name_kw (ld_blt I hg hm boot_enumerate (callWith_tyKw (thn (ha.run pos pins st σ Hx _ I h) ?_) (by rw [hs]; rfl) (by rw [hs]; rfl)))
  rintro us s1 ⟨vs, H1, I1, r1, q1⟩
  refine thn (hk.run pos pins s1 σ H1 _ I1 q1) ?_
  rintro ws s2 ⟨zs, H2, I2, r2, x, k, rfl, rfl, hk9, q⟩
  obtain ⟨t, rfl⟩ : ∃ t, us = [.str x t] := by
    cases r1 with
    | cons x y => cases y; obtain ⟨t, rfl⟩ := x; exact ⟨_, rfl⟩
  obtain ⟨u, rfl⟩ : ∃ u, ws = [.int k u] := by
    cases r2 with
    | cons x y => cases y; obtain ⟨t, rfl⟩ := x; exact ⟨_, rfl⟩
  show wpAny _ _ (call (.type "enumerate") [.str x t] [(Str.ofString "start", .int k u)]) _ _ _
  refine enum_begins_start (begins_text x t) trivial (by omega) (by omega) fun h2 he hit hsz hkp => wpAny_pyIter_enum he ?_
  have I3 : L2.Inv X pins σ H2 { s2 with heap := h2 } := I2.kept (t' := s2.toks) hkp
  refine ⟨s2.heap.objs.size + 1, [s2.heap.objs.size + 1, s2.heap.objs.size], _, _, H2, rfl, I3, turn_enumS x t k (s2.heap.objs.size + 1) s2.heap.objs.size,
    ⟨⟨.none, he⟩, ⟨_, hit, rfl, rfl⟩, Nat.succ_ne_self _⟩, fun b hb => ?_, q⟩
  have hle : s2.heap.objs.size ≤ b := by
    rcases (show b = s2.heap.objs.size + 1 ∨ b = s2.heap.objs.size by simpa using hb) with z | z
    · rw [z]; exact Nat.le_succ _
    · rw [z]; exact Nat.le_refl _
  exact I2.fpOk hle (I2.hok.fresh hle)
end SG

namespace SG
open PySem PySem.Spec PyProof.Rows L2
open SX (S)
/-- an integer's figures of base 2, as signs -/
def binS (n : Nat) : List Nat := (Nat.toDigits 2 n).map Char.toNat
def tFmtB (te : TE) : TE := fun σ H Q => te σ H fun x H1 => ∃ n : Nat, x = .int n ∧ n < 2 ^ 900 ∧ Q (.str (S (binS n))) H1
theorem bin_len {n : Nat} (h : n < 2 ^ 900) : (Nat.toDigits 2 n).length ≤ 1000 := Nat.le_trans (toDigits_len_pow (by decide) (by decide) h) (by decide)
theorem bin_ne (n : Nat) : Nat.toDigits 2 n ≠ [] := by
  intro e
  have := toDigits_len_ge 2 n
  rw [e] at this
  cases this
theorem pe_fmtB {X : Cx} {e : Expr} {te : TE} {pos p1 p2 : Pos} {j : Nat} (he : PE X e te) : PE X (.FormattedValue e (-1) (some (.JoinedStr [.Constant (.str "b") j p1] p2)) pos) (tFmtB te) := by
  refine ⟨fun pins s σ H Q I h => wpAny_FormattedValue_spec (thn (he.run pins s σ H _ I h) ?_)⟩
  rintro v s1 ⟨x, H1, I1, r1, n, rfl, hn, q⟩
  obtain ⟨t, rfl⟩ := r1
  refine thn ((pe_joined1 (X := X) (pe_str (x := "b"))).run pins s1 σ H1 (fun y H2 => y = .str "b" ∧ H2 = H1) I1 ⟨rfl, rfl⟩) ?_
  rintro u s2 ⟨y, H2, I2, r2, rfl, rfl⟩
  obtain ⟨t2, rfl⟩ := r2
  exact ⟨_, _, rfl, formatField_int_b (bin_len hn) (bin_ne n) ⟨.str (S (binS n)), H2, I2.tok _, ⟨_, rfl⟩, q⟩⟩
theorem walk_enumS {x : Str} {k : Nat} : Walk (IteS x k) x.cps.size (fun _ => True) (fun i H v H' => ∃ T c, v = .ref T ∧ H T = none ∧ x.cps[i]? = some c ∧ H' = upd H T (.tup [.int ((k + i : Nat) : Int), .str ⟨#[c]⟩])) :=
  ⟨fun _ _ hi _ => hi, fun _ _ => Nat.le_refl _, fun _ _ _ _ _ _ y => y⟩
end SG

/-! zip of two texts, sign by sign. -/
namespace SG
open PySem PySem.Spec PyProof.Rows L2
def ItzS (x y : Str) : It :=
  ⟨fun i _ => i < x.cps.size ∧ i < y.cps.size, fun i H v H2 => ∃ T c e, v = .ref T ∧ H T = none ∧ x.cps[i]? = some c ∧ y.cps[i]? = some e ∧ H2 = upd H T (.tup [.str ⟨#[c]⟩, .str ⟨#[e]⟩]), fun i _ => x.cps.size ≤ i ∨ y.cps.size ≤ i⟩
theorem turn_zipS {P : Program} {w : World} {K : PySem.W.Frag} {elts : List Expr} {kk : Nat} {tpos : Pos} {x y : Str} {t u : Tok} {z TI TO i1 i2 : Addr} (D : ZipSep2 z TI TO i1 i2 [i1] [i2]) :
    Turn P w K (.Tuple elts kk tpos) (ItzS x y) [z, TI, TO, i1, i2] z (fun i h => IsZip h z TI TO .none ∧ IsTupOf2 h TI (.ref i1) (.ref i2) ∧ (∃ a b, IsTupOf2 h TO a b) ∧ h.IsStrIter i1 (strIterType x) x t i ∧ h.IsStrIter i2 (strIterType y) y u i ∧ i ≤ x.cps.size ∧ i ≤ y.cps.size) where
  mem := by simp
  obj := fun i h st c hc => by
    obtain ⟨hz, hTI, ⟨a, b, hTO⟩, ⟨o1, e1, _, d1⟩, ⟨o2, e2, _, d2⟩, _⟩ := st
    rcases (show c = z ∨ c = TI ∨ c = TO ∨ c = i1 ∨ c = i2 by simpa using hc) with q | q | q | q | q
    · rw [q]; exact ⟨_, hz, fun v n => nomatch n⟩
    · rw [q]; exact ⟨_, hTI, fun v n => nomatch n⟩
    · rw [q]; exact ⟨_, hTO, fun v n => nomatch n⟩
    · exact ⟨o1, q ▸ e1, fun v q => by rw [d1] at q; cases q⟩
    · exact ⟨o2, q ▸ e2, fun v q => by rw [d2] at q; cases q⟩
  keep := fun i h h2 st k => by
    obtain ⟨hz, hTI, ⟨a, b, hTO⟩, ⟨o1, e1, r1⟩, ⟨o2, e2, r2⟩, l⟩ := st
    exact ⟨k z (by simp) _ hz, k TI (by simp) _ hTI, ⟨a, b, k TO (by simp) _ hTO⟩, ⟨o1, k i1 (by simp) o1 e1, r1⟩, ⟨o2, k i2 (by simp) o2 e2, r2⟩, l⟩
  item := by
    intro X hP hw hK hc i pins s σ H E I hf st hg
    subst hP hw hK
    obtain ⟨hz, hTI, ⟨a, b, hTO⟩, h1, h2, l1, l2⟩ := st
    obtain ⟨g1, g2⟩ := hg
    have hzl : z < s.heap.objs.size := Heap.lt_size hz
    refine wpAny_pyNext_zipD2_item D (Draws.text (prog := X.prog) (w := X.w) (A := X.A.in1) (I.ok.hd hc) i1 x t) (Draws.text (prog := X.prog) (w := X.w) (A := X.A.in1) (I.ok.hd hc) i2 y u) (i := i) hz hTI hTO h1 h2 g1 g2 ?_
    rintro x1 x2 h3 tk ⟨c, u1, hc1, rfl⟩ ⟨e, u2, he1, rfl⟩ hz2 hTO2 s1 s2 hT hsz hk
    refine ⟨_, rfl, wpAny_letOwnedTupleGo_zip (s := { s with heap := h3, toks := tk }) hz2 fun h4 hz4 sb => ?_⟩
    have hT4 : h4.get? s.heap.objs.size = some { cls := .type "tuple", data := .seq #[.str ⟨#[c]⟩ u1, .str ⟨#[e]⟩ u2] } := (sb.2 _ (Nat.ne_of_gt hzl)).trans hT
    have new : ObjOk X.prog X.w (upd H s.heap.objs.size (.tup [.str ⟨#[c]⟩, .str ⟨#[e]⟩])) h4 s.heap.objs.size (.tup [.str ⟨#[c]⟩, .str ⟨#[e]⟩]) :=
      ⟨by show 2 ≤ sizeLine; decide, [.str ⟨#[c]⟩ u1, .str ⟨#[e]⟩ u2], .cons ⟨_, rfl⟩ (.cons ⟨_, rfl⟩ .nil), ⟨_, hT4, rfl, _, rfl⟩⟩
    have I1 : L2.Inv X pins σ (upd H s.heap.objs.size (.tup [.str ⟨#[c]⟩, .str ⟨#[e]⟩])) { s with heap := h4, toks := tk } :=
      I.turnedNew (ch := [z, TI, TO, i1, i2]) (fun b o hb q => (sb.2 b (fun q2 => hb (by simp [q2]))).trans (hk b o (fun q2 => hb (by simp [q2])) (fun q2 => hb (by simp [q2])) (fun q2 => hb (by simp [q2])) (fun q2 => hb (by simp [q2])) q)) hf (Nat.le_refl _) new
    refine ⟨.ref s.heap.objs.size, _, I1, rfl, ⟨_, c, e, rfl, I.hok.fresh (Nat.le_refl _), hc1, he1, rfl⟩, ⟨hz4, ?_, ⟨.str ⟨#[c]⟩ u1, .str ⟨#[e]⟩ u2, ?_⟩, ?_, ?_, g1, g2⟩, fun b hb => ?_⟩
    · exact (sb.2 _ D.TIz).trans (hk _ _ D.TIz D.TITO D.TIi1 D.TIi2 hTI)
    · exact (sb.2 _ D.TOz).trans hTO2
    · obtain ⟨o, ho, r⟩ := s1
      exact ⟨o, (sb.2 _ D.zi1.symm).trans ho, r⟩
    · obtain ⟨o, ho, r⟩ := s2
      exact ⟨o, (sb.2 _ D.zi2.symm).trans ho, r⟩
    · have hb2 : b < s.heap.objs.size := by
        rcases (show b = z ∨ b = TI ∨ b = TO ∨ b = i1 ∨ b = i2 by simpa using hb) with q | q | q | q | q
        · exact q ▸ hzl
        · exact q ▸ Heap.lt_size hTI
        · exact q ▸ Heap.lt_size hTO
        · obtain ⟨_, e1, _⟩ := h1; exact q ▸ Heap.lt_size e1
        · obtain ⟨_, e2, _⟩ := h2; exact q ▸ Heap.lt_size e2
      rw [upd_ne (Nat.ne_of_lt hb2)]
      exact (hf b hb).1
  done := by
    intro X hP hw hK hc i pins s σ H E I hf st hg
    subst hP hw hK
    obtain ⟨hz, hTI, ⟨a, b, hTO⟩, h1, h2, l1, l2⟩ := st
    have he : i = x.cps.size ∨ i = y.cps.size := by
      rcases hg with q | q
      · exact .inl (by omega)
      · exact .inr (by omega)
    refine wpAny_pyNext_zipD2_end D (Draws.text (prog := X.prog) (w := X.w) (A := X.A.in1) (I.ok.hd hc) i1 x t) (Draws.text (prog := X.prog) (w := X.w) (A := X.A.in1) (I.ok.hd hc) i2 y u) (i := i) hz hTI hTO h1 h2 l1 l2 he fun h3 tk hk => ⟨rfl, ?_⟩
    exact I.turnedL (t' := tk) (ch := [z, TI, TO, i1, i2]) (fun b o hb q => hk b o (fun q2 => hb (by simp [q2])) (fun q2 => hb (by simp [q2])) (fun q2 => hb (by simp [q2])) (fun q2 => hb (by simp [q2])) q) hf
  self := fun A i s Q E st h => wpAny_pyIter_zip st.1 h
def iZipS (ta : TA) : TI := fun σ H R => ta σ H fun vs H1 => ∃ x y : Str, vs = [.str x, .str y] ∧ R (ItzS x y) H1
theorem pi_zipS {X : Cx} {e e2 : Expr} {ta : TA} {p pos tpos : Pos} {elts : List Expr} {kk : Nat} (hg : Gl X "zip") (hm : X.mg "zip" = none) (ha : PA X [e, e2] ta)
    (hs : starEach [e, e2] X.env = (false, eval e X.env) :: starEach [e2] X.env := by rfl) (hpl : (backTo pos (starEach [e2] X.env)).any (·.1) = false := by rfl) :
    PI X (.Tuple elts kk tpos) (.Call (.Name "zip" p) [e, e2] [] pos) (iZipS ta) := by
  refine ⟨fun pins s σ H R I h => ?_⟩
  refine Call_ (ld_blt I hg hm PyProof.Rows.boot_zip (PyProof.Rows.callWith_type1 (thn (ha.run pos pins s σ H _ I h) ?_) hs hpl))
  rintro us s1 ⟨vs, H1, I1, r1, x, y, rfl, q⟩
  cases r1 with
  | cons r rr =>
    cases rr with
    | cons r2 rr =>
      cases rr
      obtain ⟨t, rfl⟩ := r
      obtain ⟨u, rfl⟩ := r2
      refine zip_begins2 (begins_text x t) (begins_text y u) trivial trivial fun h3 hz hTI hTO h1 h2 hsz hk => wpAny_pyIter_zip hz ?_
      have I2 : L2.Inv X pins σ H1 { s1 with heap := h3 } := I1.kept (t' := s1.toks) hk
      refine ⟨s1.heap.objs.size + 4, [s1.heap.objs.size + 4, s1.heap.objs.size + 2, s1.heap.objs.size + 3, s1.heap.objs.size, s1.heap.objs.size + 1], _, _, H1, rfl, I2,
        turn_zipS (x := x) (y := y) (t := t) (u := u) (z := s1.heap.objs.size + 4) (TI := s1.heap.objs.size + 2) (TO := s1.heap.objs.size + 3) (i1 := s1.heap.objs.size) (i2 := s1.heap.objs.size + 1) ⟨?_, ?_, ?_, ?_, ?_, ?_, ?_, ?_, ?_, ?_, ?_, ?_, ?_⟩,
        ⟨hz, hTI, ⟨_, _, hTO⟩, ⟨_, h1, rfl, rfl⟩, ⟨_, h2, rfl, rfl⟩, Nat.zero_le _, Nat.zero_le _⟩, fun c hc => ?_, q⟩
      all_goals try (simp)
      have hle : s1.heap.objs.size ≤ c := by
        rcases (show c = s1.heap.objs.size + 4 ∨ c = s1.heap.objs.size + 2 ∨ c = s1.heap.objs.size + 3 ∨ c = s1.heap.objs.size ∨ c = s1.heap.objs.size + 1 by simpa using hc) with z | z | z | z | z
        · exact z ▸ Nat.le_add_right _ _
        · exact z ▸ Nat.le_add_right _ _
        · exact z ▸ Nat.le_add_right _ _
        · exact z ▸ Nat.le_refl _
        · exact z ▸ Nat.le_add_right _ _
      exact I1.fpOk hle (I1.hok.fresh hle)
theorem walk_zipS {x y : Str} {n : Nat} (hn : n = min x.cps.size y.cps.size) : Walk (ItzS x y) n (fun _ => True) (fun i H v H2 => ∃ T c e, v = .ref T ∧ H T = none ∧ x.cps[i]? = some c ∧ y.cps[i]? = some e ∧ H2 = upd H T (.tup [.str ⟨#[c]⟩, .str ⟨#[e]⟩])) :=
  ⟨fun i H hi _ => by show _ < _ ∧ _ < _; omega, fun H _ => by show _ ≤ n ∨ _ ≤ n; omega, fun i H v H2 _ _ h => h⟩
end SG

/-! Sets of texts: set(tuple of texts), set(text), their lengths, sorted of them. -/
namespace SG
open PySem PySem.Spec PyProof.Rows L2
def txtOf (v : Value) : Str := match v with | .str k _ => k | _ => Str.empty
def TxtE (P : Program) (w : World) (e : Int × Value) : Prop := ∃ k tk, e.2 = Value.str k tk ∧ e.1 = (PySem.strKind P w).hash k
/-- at a: a set of the texts l, each once -/
def SetS (P : Program) (w : World) (h : Heap) (a : Addr) (l : List Str) : Prop :=
  ∃ o es ep t, h.get? a = some o ∧ o.ExactSet ∧ o.data = .set es ep t ∧ (∀ e ∈ es.toList, TxtE P w e) ∧ (es.toList.map fun e => txtOf e.2).Perm l ∧ l.Nodup ∧ l.length < scanBound ∧ t.fits es.size = true ∧ Ris t.place.toList ∧ (w.params.followText "set-order" = true ∨ t.led = true)
theorem perm_size {es : Array (Int × Value)} {l : List Str} (p : (es.toList.map fun e => txtOf e.2).Perm l) : es.size = l.length := by
  rw [← p.length_eq, List.length_map, Array.length_toList]
section
variable {P : Program} {w : World} {A : Around} {E : Value → Shared → Prop} {s : Shared} {a : Addr} {l : List Str}
theorem SetS.at {h h2 : Heap} (R : SetS P w h a l) (k : ∀ o, h.get? a = some o → h2.get? a = some o) : SetS P w h2 a l := by
  obtain ⟨o, es, ep, t, ho, r⟩ := R
  exact ⟨o, es, ep, t, k o ho, r⟩
theorem txt_elems {es : List (Int × Value)} (g : ∀ e ∈ es, TxtE P w e) : ElemsOf (PySem.strKind P w) es := fun e he => by
  obtain ⟨k, tk, h1, h2⟩ := g e he
  exact ⟨⟨k, by rw [h1]; exact strKind_is P w k tk, h2⟩, by rw [h1] <;> rfl⟩
theorem txt_is {e : Int × Value} (g : TxtE P w e) (k : Str) : (PySem.strKind P w).is k e.2 = true ↔ txtOf e.2 = k := by
  obtain ⟨k0, tk, h1, _⟩ := g
  rw [h1, KeyKind.is_eq_decide (strKind_is P w k0 tk) k, decide_eq_true_eq]
  exact eq_comm
theorem SetS.tail {g : Bool → Sem Unit} (hg : ∀ (b : Bool) (s1 : Shared) (Q2 : Unit → Shared → Prop), Q2 () s1 → wpAny (model P w) A (g b) Q2 E s1)
    {o : Obj} {es : Array (Int × Value)} {ep : Nat} {t : SetTable} (ho : s.heap.get? a = some o) (hex : o.ExactSet) (hd : o.data = .set es ep t)
    {es1 : Array (Int × Value)} {t2 : SetTable} {m : List Str} (g1 : ∀ e ∈ es1.toList, TxtE P w e) (pm : (es1.toList.map fun e => txtOf e.2).Perm m) (ndm : m.Nodup) (hb : m.length < scanBound)
    (hf : t2.fits es1.size = true) (hr : Ris t2.place.toList) (hl : w.params.followText "set-order" = true ∨ t2.led = true) {was : Bool} {R : Option Bool → Shared → Prop}
    (hR : ∀ h2, Heap.SameBut a s.heap h2 → SetS P w h2 a m → R (some true) { s with heap := h2 }) :
    wpAny (model P w) A (storeSet a es1 t2 >>= fun _ => if (!was && t2.tooFull) = true then (g (relayAll t2 es1 (SetTable.grown es1.size)).2.2 >>= fun _ =>
      storeSet a (relayAll t2 es1 (SetTable.grown es1.size)).1 (relayAll t2 es1 (SetTable.grown es1.size)).2.1 >>= fun _ => pure (some true)) else pure (some true)) R E s := by
  have z1 := perm_size pm
  have b1 : es1.size < scanBound := by rw [z1]; exact hb
  refine wpAny_bind (wpAny_storeSet_of ho hd ?_ (fits_of_scanBound b1))
  have ho1 := store_at (es' := es1) (t' := t2) ho hd
  have sb1 := Heap.SameBut.update s.heap a (Obj.putSet es1 t2)
  split
  · have q1 := relayAll_perm t2 es1 (SetTable.grown es1.size)
    have q2 := relayAll_fits t2 es1 (SetTable.grown es1.size)
    have q3 := relayAll_ris t2 es1 (SetTable.grown es1.size)
    have q4 := relayAll_led t2 es1 (SetTable.grown es1.size)
    generalize relayAll t2 es1 (SetTable.grown es1.size) = Z at q1 q2 q3 q4 ⊢
    obtain ⟨es2, t3, gave⟩ := Z
    dsimp only at q1 q2 q3 q4 ⊢
    have p2 := (q1.map fun e => txtOf e.2).trans pm
    have b2 : es2.size < scanBound := by rw [perm_size p2]; exact hb
    refine wpAny_bind (hg _ _ _ (wpAny_bind (wpAny_storeSet_of ho1 rfl ?_ (fits_of_scanBound b2))))
    refine wpAny_pure (hR _ (sb1.trans (Heap.SameBut.update _ a _)) ⟨_, es2, _, t3, store_at ho1 rfl, hex, rfl, fun e he => g1 e (q1.mem_iff.mp he), p2, ndm, hb, q2, q3, hl.imp id fun z => by rw [q4]; exact z⟩)
  · exact wpAny_pure (hR _ sb1 ⟨_, es1, _, t2, ho1, hex, rfl, g1, pm, ndm, hb, hf, hr, hl⟩)
/-- one text more, if it isn't there -/
theorem SetS.put {k : Str} {tk : Tok} {Q : Bool → Shared → Prop} (R : SetS P w s.heap a l) (room : l.length + 1 < scanBound)
    (hQ : ∀ h2, Heap.SameBut a s.heap h2 → SetS P w h2 a (if k ∈ l then l else k :: l) → Q (!decide (k ∈ l)) { s with heap := h2 }) :
    wpAny (model P w) A (setAddHashed a (.str k tk) ((PySem.strKind P w).hash k)) Q E s := by
  obtain ⟨o, es, ep, t, ho, hex, hd, g, pm, nd, hb, hf, hr, hl⟩ := R
  have sz := perm_size pm
  have hbe : es.size < scanBound := by rw [sz]; exact hb
  have hkey : (PySem.strKind P w).is k (.str k tk) = true := strKind_is P w k tk
  have hsc : (Value.str k tk).scannable = true := rfl
  have hel := txt_elems g
  unfold setAddHashed setAddHashedIn
  refine wpAny_holding (wpAny_bind (wpAny_setState_of ho hd hf ?_))
  dsimp only
  rw [byScan_of hsc hbe hel]
  simp only [↓reduceIte]
  unfold setAddByScan
  refine wpAny_bind (wpAny_bind (wpAny_rule (wpAny_bind (wpAny_setScan_of hkey ho hd hf hel ?_))))
  cases hfi : List.findIdx? (fun e => (PySem.strKind P w).is k e.2) es.toList with
  | some j =>
    dsimp only
    obtain ⟨hj, pj, _⟩ := List.findIdx?_eq_some_iff_getElem.mp hfi
    have hk : k ∈ l := pm.mem_iff.mp (List.mem_map.mpr ⟨es.toList[j], List.getElem_mem hj, (txt_is (g _ (List.getElem_mem hj)) k).mp pj⟩)
    have q := hQ s.heap (Heap.SameBut.refl a s.heap) (by rw [if_pos hk]; exact ⟨o, es, ep, t, ho, hex, hd, g, pm, nd, hb, hf, hr, hl⟩)
    rw [decide_eq_true hk] at q
    exact wpAny_pure (wpAny_pure q)
  | none =>
    dsimp only
    have hk : k ∉ l := fun z => by
      obtain ⟨e, he, q⟩ := List.mem_map.mp (pm.mem_iff.mpr z)
      have c := List.findIdx?_eq_none_iff.mp hfi e he
      rw [(txt_is (g e he) k).mpr q] at c
      cases c
    have hgw : ∀ (b : Bool) {s1 : Shared} {Q2 : Unit → Shared → Prop}, Q2 () s1 → wpAny (model P w) A (match b with | true => rule "set.scan.the-table-gave-way" | false => pure ()) Q2 E s1 :=
      fun b s1 Q2 q => by cases b <;> first | exact wpAny_pure q | exact wpAny_rule q
    have q1 := layNew_perm t es ((PySem.strKind P w).hash k) (.str k tk)
    have q2 := layNew_fits t es ((PySem.strKind P w).hash k) (.str k tk)
    have q3 := layNew_ris t es ((PySem.strKind P w).hash k) (.str k tk) hr
    have q4 := layNew_led t es ((PySem.strKind P w).hash k) (.str k tk)
    generalize layNew t es ((PySem.strKind P w).hash k) (.str k tk) = Z at q1 q2 q3 q4 ⊢
    obtain ⟨es1, t1, was, gave⟩ := Z
    dsimp only at q1 q2 q3 q4 ⊢
    rw [Array.toList_push] at q1
    have pc := q1.trans (List.perm_append_singleton _ _)
    have pk : (es1.toList.map fun e => txtOf e.2).Perm (k :: l) := by
      have z := pc.map fun e => txtOf e.2
      exact z.trans (List.Perm.cons k pm)
    have g1 : ∀ e ∈ es1.toList, TxtE P w e := fun e he => by
      rcases List.mem_cons.mp (pc.mem_iff.mp he) with z | z
      · rw [z]; exact ⟨k, tk, rfl, rfl⟩
      · exact g e z
    have nd1 : (k :: l).Nodup := List.nodup_cons.mpr ⟨hk, nd⟩
    have hled : w.params.followText "set-order" = true ∨ t1.led = true := hl.imp id fun z => by rw [q4]; exact z
    have fin : ∀ h2, Heap.SameBut a s.heap h2 → SetS P w h2 a (k :: l) → Q true { s with heap := h2 } := fun h2 sb r => by
      have q := hQ h2 sb (by rw [if_neg hk]; exact r)
      rw [decide_eq_false hk] at q
      exact q
    refine wpAny_bind (hgw _ ?_)
    split
    · refine wpAny_bind ?_
      rw [hashByValue_scannable 8 hsc]
      refine wpAny_pure ?_
      refine SetS.tail ?_ ho hex hd g1 pk nd1 room ?_ ?_ ?_ fun h2 sb r => ?_
      · intro b s1 Q2 q; cases b <;> first | exact wpAny_pure q | exact wpAny_rule q
      · first | (split <;> first | exact q2 | exact SetTable.fits_plain_off q2) | exact q2
      · first | (split <;> exact q3) | exact q3
      · first | (split <;> exact hled) | exact hled
      · exact wpAny_pure (fin h2 sb r)
    · refine wpAny_bind (wpAny_pure ?_)
      simp only [↓reduceIte]
      refine SetS.tail ?_ ho hex hd g1 pk nd1 room q2 q3 hled fun h2 sb r => ?_
      · intro b s1 Q2 q; cases b <;> first | exact wpAny_pure q | exact wpAny_rule q
      · exact wpAny_pure (fin h2 sb r)
theorem SetS.fresh {h : Heap} : SetS P w (h.push { cls := .type "set", dict := none, data := .set #[] 0 (.fresh 0 0 (!w.params.followText "set-order")) }) h.objs.size [] :=
  ⟨_, #[], 0, _, Heap.get?_push_size _ rfl, ⟨rfl, rfl, rfl⟩, rfl, (fun e he => by simp at he), by simp, by simp, by decide, by rfl, List.Pairwise.nil, by
    cases h : w.params.followText "set-order"
    · exact .inr rfl
    · exact .inl rfl⟩
end
/-- the texts met so far, the last one first -/
def once (xs : List Str) : List Str := xs.foldl (fun l k => if k ∈ l then l else k :: l) []
theorem once_snoc (xs : List Str) (k : Str) : once (xs ++ [k]) = if k ∈ once xs then once xs else k :: once xs := by
  unfold once
  rw [List.foldl_append]
  rfl
theorem once_len : ∀ xs : List Str, (once xs).length ≤ xs.length := fun xs => by
  rcases List.eq_nil_or_concat xs with rfl | ⟨ys, k, rfl⟩
  · exact Nat.le_refl _
  · rw [List.concat_eq_append, once_snoc, List.length_append]
    have := once_len ys
    split
    · omega
    · rw [List.length_cons, List.length_singleton]; omega
termination_by xs => xs.length
decreasing_by simp_all
section
variable {prog : Program} {w : World} {A : Around} {R : Result → Shared → Prop} {I : Addr} {fp wr : List Addr} {G : Array GenState → Array GenState → Prop} {n : Nat} {Pv : Nat → Value → Prop} {St : Nat → Shared → Prop}
theorem upd_loopS (W : WalksS prog w A.in1 I fp wr G n Pv St) (a : Addr) (af : a ∉ fp) (xs : List Str) (hn : xs.length = n) (hb : n + 1 < scanBound) (hv : ∀ i v, Pv i v → ∃ t, v = .str (xs.getD i Str.empty) t) :
    ∀ (k i : Nat) (s : Shared), n - i = k → i ≤ n → St i s → SetS prog w s.heap a (once (xs.take i)) →
      (∀ s2, Moved (a :: wr) G s s2 → SetS prog w s2.heap a (once xs) → R (.ok (.ret .none)) s2) → codeAny (model prog w) A (.builtin "set.update.loop" ⟨[.ref a, .ref I], []⟩) R s := by
  have aw : a ∉ wr := fun h => af (W.sub _ h)
  have more : ∀ b ∈ wr, b ∈ a :: wr := fun b hb => List.mem_cons_of_mem _ hb
  intro k
  induction k with
  | zero =>
    intro i s hk hi hst hS hR
    obtain rfl : i = n := by omega
    rw [← hn, List.take_length] at hS
    refine codeAny_builtin PyProof.Rows.F.entry_set_update_loop ?_
    rw [Around.under_plainId PyProof.Rows.F.plain_set_update_loop _]
    refine wpAny_bind (W.done s _ _ hst fun s2 hm => ?_)
    exact wpAny_pure (hR s2 (hm.mono more) (hS.at fun o ho => hm.heap a _ aw ho))
  | succ k ih =>
    intro i s hk hi hst hS hR
    have lt : i < n := by omega
    refine codeAny_builtin PyProof.Rows.F.entry_set_update_loop ?_
    rw [Around.under_plainId PyProof.Rows.F.plain_set_update_loop _]
    refine wpAny_bind (W.item i s _ _ lt hst fun v s2 hP hst2 hm => ?_)
    obtain ⟨t, rfl⟩ := hv i v hP
    have hS2 : SetS prog w s2.heap a (once (xs.take i)) := hS.at fun o ho => hm.heap a _ aw ho
    show wpAny _ A.in1 (holding [Value.str (xs.getD i Str.empty) t] (setAdd a (.str (xs.getD i Str.empty) t)) >>= _) _ _ s2
    refine wpAny_bind (wpAny_holding ?_)
    unfold setAdd
    refine wpAny_holding (wpAny_bind ((PySem.strKind prog w).pyHash (k := xs.getD i Str.empty) (strKind_is _ _ _ _) ?_))
    have room : (once (xs.take i)).length + 1 < scanBound := by
      have := once_len (xs.take i)
      rw [List.length_take] at this
      omega
    refine SetS.put (s := { s2 with toks := s2.toks + 1 }) hS2 room fun h3 sb S3 => ?_
    have e : once (xs.take (i + 1)) = if xs.getD i Str.empty ∈ once (xs.take i) then once (xs.take i) else xs.getD i Str.empty :: once (xs.take i) := by
      have hi2 : i < xs.length := by omega
      rw [List.take_succ_eq_append_getElem hi2, once_snoc, List.getD_eq_getElem?_getD, List.getElem?_eq_getElem hi2]
      rfl
    rw [← e] at S3
    refine wpAny_pure ⟨plainId_quiet PyProof.Rows.F.plain_set_update_loop _, ih (i + 1) _ (by omega) lt (W.frame _ s2 _ _ hst2 (Nat.le_succ _) fun b hb o z => ?_) S3 fun s4 hm4 S4 => ?_⟩
    · rw [sb.2 b (fun h : b = a => af (h ▸ hb))]; exact z
    · refine hR s4 (Moved.trans W.gtrans ((hm.mono more).then_heap (Nat.le_succ _) fun b o hb z => ?_) hm4) S4
      rw [sb.2 b (fun h : b = a => hb (by rw [h]; exact List.mem_cons_self))]; exact z
end
abbrev noneSet (w : World) : Obj := { cls := .type "set", dict := none, data := .set #[] 0 (.fresh 0 0 (!w.params.followText "set-order")) }
section
variable {P : Program} {w : World} {A : Around} {E : Value → Shared → Prop} {s : Shared}
theorem new_set1 (x : Value) {Q1 : Value → Shared → Prop} (h : Q1 (.ref s.heap.objs.size) { s with heap := s.heap.push { cls := .type "set", dict := none, data := .set #[] 0 (.fresh 0 0 (!w.params.followText "set-order")) } }) :
    codeAny (model P w) A (.call (.builtin "set.__new__") ⟨[.type "set", x], []⟩) (wants Q1 E) s := by
  refine codeAny_of_tree ?_
  refine wpAny_bind (wpAny_of_eq (PySem.F.newCall_set_1 x) (wpAny_pure ⟨plainId_quiet PySem.F.plain_set_new _, codeAny_builtin PySem.F.entry_set_new ?_⟩))
  rw [Around.under_plainId PySem.F.plain_set_new _]
  unfold Builtin.«set.__new__» Builtin.Frozenset.newClass
  have hsub := sub_set_self
  obtain ⟨hp, g, d, tk, os⟩ := s
  dsimp only
  wp_walk
  refine wpAny_askSetting (wpAny_pure ?_)
  dsimp only
  simp only [newObj]
  exact wpAny_bind (wpAny_alloc (wpAny_pure (wpAny_pure h)))
/-- set(x), where x is iterated into texts -/
theorem set_of {x : Value} {xs : List Str} {Q : Value → Shared → Prop}
    (hin : ∀ {R : Fin → Shared → Prop} {E2 : Value → Shared → Prop} {A2 : Around}, A2.handled = A.handled →
      (∀ h2 tk, SetS P w h2 s.heap.objs.size (once xs) → (∀ b o, b < s.heap.objs.size → s.heap.get? b = some o → h2.get? b = some o) → R (.done (.ret .none)) { s with heap := h2, toks := tk }) →
      wpAny (model P w) A2 (Builtin.«set.__init__» ⟨[.ref s.heap.objs.size, x], []⟩) R E2 { s with heap := s.heap.push (noneSet w) })
    (h : ∀ h2 tk, SetS P w h2 s.heap.objs.size (once xs) → (∀ b o, b < s.heap.objs.size → s.heap.get? b = some o → h2.get? b = some o) → Q (.ref s.heap.objs.size) { s with heap := h2, toks := tk }) :
    wpAny (model P w) A (call (.type "set") [x]) Q E s := by
  obtain ⟨c, tl, hmro⟩ := PySem.F.called_set.mro
  have hmade := PySem.F.called_set.made
  have hsub := PySem.F.called_set.sub
  refine wpAny_call (codeAny_of_tree ?_)
  show wpAny _ _ (callAny (.type "set") _) _ _ _
  refine wpAny_pure ⟨Code.quiet_builtin _ (by decide +kernel), codeAny_builtin PySem.F.entry_type_call ?_⟩
  rw [Around.under_plain (weight_type_call_type "set" [x] []) rfl]
  have h1 := PySem.F.called_set.notType
  have h2 := PySem.F.called_set.canCreate
  have hct := PySem.F.typeCall_set_1 x
  repeat (any_goals (first | assumption | wp_step))
  refine codeAny_mono (new_set1 (P := P) (w := w) x (E := E) (Q1 := fun obj s1 => obj = .ref s.heap.objs.size ∧ s1 = { s with heap := s.heap.push { cls := .type "set", dict := none, data := .set #[] 0 (.fresh 0 0 (!w.params.followText "set-order")) } }) ⟨rfl, rfl⟩) fun r s1 hr => ?_
  cases r with
  | error e => exact hr
  | ok fl =>
    cases fl with
    | next => exact hr.elim
    | brk => exact hr.elim
    | cont => exact hr.elim
    | ret obj =>
      obtain ⟨rfl, rfl⟩ := hr
      have hS : (s.heap.push { cls := .type "set", dict := none, data := .set #[] 0 (.fresh 0 0 (!w.params.followText "set-order")) }).get? s.heap.objs.size = some { cls := .type "set", dict := none, data := .set #[] 0 (.fresh 0 0 (!w.params.followText "set-order")) } := Heap.get?_push_size _ rfl
      have hT : Shared.TypeIs { s with heap := s.heap.push { cls := .type "set", dict := none, data := .set #[] 0 (.fresh 0 0 (!w.params.followText "set-order")) } } (.ref s.heap.objs.size) "set" := ⟨_, hS, rfl⟩
      have hli := PySem.F.called_set.init.lookup
      have hbi := PySem.F.called_set.init.bind (.ref s.heap.objs.size)
      repeat (any_goals (first | assumption | wp_step))
      refine codeAny_mono (codeAny_call_builtin (R := wants (fun r s2 => r = .none ∧ ∃ h3 tk, s2 = { s with heap := h3, toks := tk } ∧ SetS P w h3 s.heap.objs.size (once xs) ∧ (∀ b o, b < s.heap.objs.size → s.heap.get? b = some o → h3.get? b = some o)) E) PySem.F.called_set.init.plain PySem.F.entry_set_init (check_set_init_1 hT ?_)) fun r2 s2 hr2 => ?_
      · exact hin (by first | rfl | simp) fun h3 tk S3 k3 => ⟨rfl, h3, tk, rfl, S3, k3⟩
      · cases r2 with
        | error e => exact hr2
        | ok fl2 =>
          cases fl2 with
          | next => exact hr2.elim
          | brk => exact hr2.elim
          | cont => exact hr2.elim
          | ret r =>
            obtain ⟨rfl, h3, tk, rfl, S3, k3⟩ := hr2
            repeat (any_goals (first | assumption | wp_step))
            exact h _ _ S3 k3
end
end SG

namespace SG
open PySem PySem.Spec PyProof.Rows L2
theorem sub_str_setT : isSubtype (.type "str") (.type "set") = pure false := by
  rw [isSubtype_type]
  kernel_rfl
theorem sub_str_frozenT : isSubtype (.type "str") (.type "frozenset") = pure false := by
  rw [isSubtype_type]
  kernel_rfl
section
variable {P : Program} {w : World} {A : Around} {E : Value → Shared → Prop} {s : Shared}
set_option maxHeartbeats 3200000 in
theorem init_tup {l : Addr} {items : Array Value} {xs : List Str} (hh : A.handled = none) (hl : s.heap.IsTuple l items) (hi : StrsAre items.toList xs) (hb : xs.length + 1 < scanBound) {R : Fin → Shared → Prop} {E2 : Value → Shared → Prop}
    (q : ∀ h2 tk, SetS P w h2 s.heap.objs.size (once xs) → (∀ b o, b < s.heap.objs.size → s.heap.get? b = some o → h2.get? b = some o) → R (.done (.ret .none)) { s with heap := h2, toks := tk }) :
    wpAny (model P w) A (Builtin.«set.__init__» ⟨[.ref s.heap.objs.size, .ref l], []⟩) R E2 { s with heap := s.heap.push (noneSet w) } := by
  have hS : (s.heap.push (noneSet w)).get? s.heap.objs.size = some { cls := .type "set", dict := none, data := .set #[] 0 (.fresh 0 0 (!w.params.followText "set-order")) } := Heap.get?_push_size _ rfl
  have hT : Shared.TypeIs { s with heap := s.heap.push (noneSet w) } (.ref s.heap.objs.size) "set" := ⟨_, hS, rfl⟩
  have S0 : SetS P w (s.heap.push (noneSet w)) s.heap.objs.size [] := SetS.fresh
  have hz : (s.heap.push (noneSet w)).objs.size = s.heap.objs.size + 1 := Heap.size_push ..
  have k0 : ∀ b o, s.heap.get? b = some o → (s.heap.push (noneSet w)).get? b = some o := fun b o e => Heap.get?_push_of_some _ e
  generalize s.heap.push (noneSet w) = h0 at hS hT S0 hz k0 ⊢
  obtain ⟨⟨c1, c2, c3, c4⟩, ho, hc, n1, hd⟩ := hl
  dsimp only at hc hd
  subst hc hd
  have lt : l < s.heap.objs.size := Heap.lt_size ho
  have ho1 := k0 _ _ ho
  have f1 := PySem.F.sub_tuple_set
  have f2 := PySem.F.sub_tuple_frozenset
  have f3 : (Value.type "tuple" == Value.type "dict") = false := by decide
  have hl1 : h0.IsTuple l items := ⟨_, ho1, rfl, n1, rfl⟩
  unfold Builtin.«set.__init__» noKeywords Builtin.Frozenset.updateFrom
  generalize hPI : pyIter = PI
  wp_walk
  subst hPI
  refine wpAny_pyIter_tuple hl1 ?_
  refine wpAny_bind (wpAny_runValue ?_)
  have lt0 : s.heap.objs.size < h0.objs.size := by rw [hz]; exact Nat.lt_succ_self _
  have hI : l ≠ h0.objs.size := Nat.ne_of_lt (Nat.lt_trans lt lt0)
  have hf : s.heap.objs.size ∉ [h0.objs.size, l] := by
    simp only [List.mem_cons, List.not_mem_nil, or_false, not_or]
    exact ⟨Nat.ne_of_lt lt0, Nat.ne_of_gt lt⟩
  have hsz : xs.length = items.size := by rw [← StrsAre.len_eq hi, Array.length_toList]
  have hv : ∀ (i : Nat) (v : Value), items[i]? = some v → ∃ t, v = .str (xs.getD i Str.empty) t := fun i v e => SS.strs_at hi i v (by rw [Array.getElem?_toList]; exact e)
  have h3 : A.in1.handled = none := by simpa using hh
  refine upd_loopS ((Walks.tuple h3 _ l hI items).toS) s.heap.objs.size hf xs hsz (by rw [← hsz]; exact hb) hv (items.size - 0) 0 { s with heap := h0.push { cls := .type "tuple_iterator", data := .fields #[.ref l, .int 0 0] } } (by omega) (Nat.zero_le _) ⟨⟨_, Heap.get?_push_size _ rfl, rfl, rfl⟩, hl1.push _⟩ (SetS.at (h2 := h0.push { cls := .type "tuple_iterator", data := .fields #[.ref l, .int 0 0] }) S0 fun o e => Heap.get?_push_of_some _ e) fun s2 hm S2 => ?_
  obtain ⟨h2, g2, d2, t2, o2⟩ := s2
  obtain rfl : g2 = s.gens := hm.gens
  obtain rfl : d2 = s.drawn := hm.drawn
  obtain rfl : o2 = s.os := hm.os
  refine wpAny_pure (wpAny_pure (q h2 t2 S2 fun b o hb e => ?_))
  refine hm.heap b o ?_ (Heap.get?_push_of_some _ (k0 _ _ e))
  simp only [List.mem_cons, List.not_mem_nil, or_false, not_or]
  exact ⟨Nat.ne_of_lt hb, Nat.ne_of_lt (Nat.lt_trans hb lt0)⟩
set_option maxHeartbeats 3200000 in
theorem init_txt {z : Str} {tz : Tok} (hh : A.handled = none) (hb : z.cps.size + 1 < scanBound) {R : Fin → Shared → Prop} {E2 : Value → Shared → Prop}
    (q : ∀ h2 tk, SetS P w h2 s.heap.objs.size (once (z.cps.toList.map fun g => (⟨#[g]⟩ : Str))) → (∀ b o, b < s.heap.objs.size → s.heap.get? b = some o → h2.get? b = some o) → R (.done (.ret .none)) { s with heap := h2, toks := tk }) :
    wpAny (model P w) A (Builtin.«set.__init__» ⟨[.ref s.heap.objs.size, .str z tz], []⟩) R E2 { s with heap := s.heap.push (noneSet w) } := by
  have hS : (s.heap.push (noneSet w)).get? s.heap.objs.size = some { cls := .type "set", dict := none, data := .set #[] 0 (.fresh 0 0 (!w.params.followText "set-order")) } := Heap.get?_push_size _ rfl
  have hT : Shared.TypeIs { s with heap := s.heap.push (noneSet w) } (.ref s.heap.objs.size) "set" := ⟨_, hS, rfl⟩
  have S0 : SetS P w (s.heap.push (noneSet w)) s.heap.objs.size [] := SetS.fresh
  have hz : (s.heap.push (noneSet w)).objs.size = s.heap.objs.size + 1 := Heap.size_push ..
  have k0 : ∀ b o, s.heap.get? b = some o → (s.heap.push (noneSet w)).get? b = some o := fun b o e => Heap.get?_push_of_some _ e
  generalize s.heap.push (noneSet w) = h0 at hS hT S0 hz k0 ⊢
  have f1 := sub_str_setT
  have f2 := sub_str_frozenT
  have f3 : (Value.type "str" == Value.type "dict") = false := by decide
  unfold Builtin.«set.__init__» noKeywords Builtin.Frozenset.updateFrom
  generalize hPI : pyIter = PI
  wp_walk
  subst hPI
  refine wpAny_pyIter_strU ?_
  refine wpAny_bind (wpAny_runValue ?_)
  have lt0 : s.heap.objs.size < h0.objs.size := by rw [hz]; exact Nat.lt_succ_self _
  have hf : s.heap.objs.size ∉ [h0.objs.size] := by
    simp only [List.mem_cons, List.not_mem_nil, or_false]
    exact Nat.ne_of_lt lt0
  have hsz : (z.cps.toList.map fun g => (⟨#[g]⟩ : Str)).length = z.cps.size := by rw [List.length_map, Array.length_toList]
  have hb2 : z.cps.size + 1 < scanBound := hb
  have hv : ∀ (i : Nat) (v : Value), SignAt z i v → ∃ t, v = .str ((z.cps.toList.map fun g => (⟨#[g]⟩ : Str)).getD i Str.empty) t := by
    rintro i v ⟨c, u, hc, rfl⟩
    refine ⟨u, ?_⟩
    rw [List.getD_eq_getElem?_getD, List.getElem?_map, Array.getElem?_toList, hc]
    rfl
  have h3 : A.in1.handled = none := by simpa using hh
  have fin : ∀ s2 : Shared, Moved (s.heap.objs.size :: [h0.objs.size]) (fun a b => b = a) { s with heap := h0.push { cls := .type (strIterType z), data := .fields #[.str z tz, .int 0 0] } } s2 → SetS P w s2.heap s.heap.objs.size (once (z.cps.toList.map fun g => (⟨#[g]⟩ : Str))) → R (.done (.ret .none)) s2 := by
    intro s2 hm S2
    obtain ⟨h2, g2, d2, t2, o2⟩ := s2
    obtain rfl : g2 = s.gens := hm.gens
    obtain rfl : d2 = s.drawn := hm.drawn
    obtain rfl : o2 = s.os := hm.os
    refine q h2 t2 S2 fun b o hb e => hm.heap b o ?_ (Heap.get?_push_of_some _ (k0 _ _ e))
    simp only [List.mem_cons, List.not_mem_nil, or_false, not_or]
    exact ⟨Nat.ne_of_lt hb, Nat.ne_of_lt (Nat.lt_trans hb lt0)⟩
  have go : ∀ (ty : String), strIterType z = ty → Walks P w A.in1 h0.objs.size [h0.objs.size] [h0.objs.size] z.cps.size (SignAt z) (fun i h => h.IsStrIter h0.objs.size ty z tz i) →
      ∀ K : Result → Shared → Prop, (∀ s2, R (.done (.ret .none)) s2 → K (.ok (.ret .none)) s2) → codeAny (model P w) A (.builtin "set.update.loop" ⟨[.ref s.heap.objs.size, .ref h0.objs.size], []⟩) K { s with heap := h0.push { cls := .type (strIterType z), data := .fields #[.str z tz, .int 0 0] } } := by
    intro ty e W K hK
    refine upd_loopS W.toS s.heap.objs.size hf _ hsz hb2 hv (z.cps.size - 0) 0 { s with heap := h0.push { cls := .type (strIterType z), data := .fields #[.str z tz, .int 0 0] } } (by omega) (Nat.zero_le _) ⟨_, Heap.get?_push_size _ rfl, e ▸ rfl, rfl⟩ (SetS.at (h2 := h0.push { cls := .type (strIterType z), data := .fields #[.str z tz, .int 0 0] }) S0 fun o e => Heap.get?_push_of_some _ e) fun s2 hm S2 => ?_
    exact hK s2 (fin s2 hm S2)
  cases ha : z.cps.all (· < 128) with
  | true => exact go "str_ascii_iterator" (by unfold strIterType; rw [ha]; rfl) (Walks.strAscii h3 _ z tz) _ fun s2 r2 => wpAny_pure (wpAny_pure r2)
  | false => exact go "str_iterator" (by unfold strIterType; rw [ha]; rfl) (Walks.strWide h3 _ z tz) _ fun s2 r2 => wpAny_pure (wpAny_pure r2)
end

/-! ### the rules -/
/-- the set of the texts l, at a -/
def SetO2 (P : Program) (w : World) (a : Addr) (l : List Str) : HO := .ext fun h => SetS P w h a l
section
variable {X : Cx}
theorem setO2_new {P : Program} {w : World} {H : Hp} {h : Heap} {a : Addr} {l : List Str} (R : SetS P w h a l) : ObjOk P w H h a (SetO2 P w a l) := by
  have ⟨o, _, _, _, ho, _⟩ := R
  exact ⟨R, ⟨o, ho⟩, fun h1 h2 p k => SetS.at p k⟩
def signs (z : Str) : List Str := z.cps.toList.map fun g => ⟨#[g]⟩
/-- set(x), x a tuple of texts, or a text -/
def rSetTx (K : PySem.W.Frag) (P : Program) (w : World) : List V → Hp → VK → Prop := fun vs H Q =>
  (∃ (p : Addr) (xs : List Str), vs = [.ref p] ∧ SqT K H p (xs.map V.str) ∧ xs.length ≤ 1000 ∧ ∀ a : Addr, H a = none → Q (.ref a) (upd H a (SetO2 P w a (once xs)))) ∨
  (∃ z : Str, vs = [.str z] ∧ z.length ≤ 1000 ∧ ∀ a : Addr, H a = none → Q (.ref a) (upd H a (SetO2 P w a (once (signs z)))))
theorem few_scan {n : Nat} (h : n ≤ 1000) : n + 1 < scanBound := by
  unfold scanBound
  omega
theorem k_setTx {K : PySem.W.Frag} {P : Program} {w : World} (hc : X.calm = true) (e : X.K = K := by rfl) (eP : X.prog = P := by rfl) (ew : X.w = w := by rfl) : CallR X (.type "set") (rSetTx K P w) := by
  subst e eP ew
  intro pins s σ H vs us Q I r h
  rcases h with ⟨p, xs, rfl, hp, hl, q⟩ | ⟨z, rfl, hl, q⟩
  · rw [Vals.ref1 r]
    obtain ⟨its, rv, pl, hz⟩ := I.tuple hp
    refine set_of (xs := xs) (fun hA hR => init_tup (by rw [hA]; exact I.ok.hd hc) pl (by simpa using strsAre_of rv) (few_scan hl) hR) fun h2 tk S2 k2 => ?_
    exact ⟨.ref _, upd H s.heap.objs.size (SetO2 X.prog X.w s.heap.objs.size (once xs)), I.laid (t' := tk) (fun b u e => k2 b u (Heap.lt_size e) e) (Nat.le_refl _) (setO2_new S2), rfl, q _ (I.hok.fresh (Nat.le_refl _))⟩
  · cases r with
    | cons r rr =>
      cases rr
      obtain ⟨t, rfl⟩ := r
      refine set_of (xs := signs z) (fun hA hR => init_txt (by rw [hA]; exact I.ok.hd hc) (few_scan hl) hR) fun h2 tk S2 k2 => ?_
      exact ⟨.ref _, upd H s.heap.objs.size (SetO2 X.prog X.w s.heap.objs.size (once (signs z))), I.laid (t' := tk) (fun b u e => k2 b u (Heap.lt_size e) e) (Nat.le_refl _) (setO2_new S2), rfl, q _ (I.hok.fresh (Nat.le_refl _))⟩
/-- len(a set of texts) -/
def rLenTx (P : Program) (w : World) : List V → Hp → VK → Prop := fun vs H Q => ∃ (a : Addr) (l : List Str), vs = [.ref a] ∧ H a = some (SetO2 P w a l) ∧ Q (.int l.length) H
theorem k_lenTx {P : Program} {w : World} (eP : X.prog = P := by rfl) (ew : X.w = w := by rfl) : CallR X (.builtin "len") (rLenTx P w) := by
  subst eP ew
  intro pins s σ H vs us Q I r h
  obtain ⟨a, l, rfl, ha, q⟩ := h
  rw [Vals.ref1 r]
  obtain ⟨o, es, ep, t, ho, hex, hd, g, pm, nd, hb, hf, _⟩ : SetS X.prog X.w s.heap a l := (I.hok a _ ha).1
  have z := perm_size pm
  refine call_len_set ho hex hd hf (by unfold scanBound at hb; rw [z]; omega) ⟨.int l.length, H, I.tok _, ⟨_, by rw [z]⟩, q⟩
theorem strs_of : ∀ (l : List Value), (∀ v ∈ l, ∃ k tk, v = Value.str k tk) → StrsAre l (l.map txtOf)
  | [], _ => .nil
  | v :: l, h => by
    obtain ⟨k, tk, rfl⟩ := h v List.mem_cons_self
    exact .cons k tk (strs_of l fun u hu => h u (List.mem_cons_of_mem _ hu))
/-- sorted(a set of texts) -/
def rSortTx (P : Program) (w : World) : List V → Hp → VK → Prop := fun vs H Q => ∃ (a : Addr) (l : List Str), vs = [.ref a] ∧ H a = some (SetO2 P w a l) ∧
  ∀ (m : List Str) (p : Addr), m.Perm l → sortedS m = true → H p = none → Q (.ref p) (upd H p (.lst (m.map V.str)))
theorem k_sortTx {P : Program} {w : World} (hc : X.calm = true) (eP : X.prog = P := by rfl) (ew : X.w = w := by rfl) : CallR X (.builtin "sorted") (rSortTx P w) := by
  subst eP ew
  intro pins s σ H vs us Q I r h
  obtain ⟨a, l, rfl, ha, q⟩ := h
  rw [Vals.ref1 r]
  obtain ⟨o, es, ep, t, ho, hex, hd, g, pm, nd, hb, hf, hr, hl⟩ : SetS X.prog X.w s.heap a l := (I.hok a _ ha).1
  have sz := perm_size pm
  have hbe : es.size < scanBound := by rw [sz]; exact hb
  refine Calls.call_function_entry kind_sorted plain_sorted entry_sorted (args_sorted1 _) ?_
  unfold Builtin.«sorted»
  refine wpAny_bind (m := checkCount "sorted" 1 1 _) (wpAny_pure ?_)
  refine wpAny_bind (collect_set (A := X.A.in1) (I.ok.hd hc) ⟨o, ho, hex.1, hd⟩ hf hbe hr hl fun s1 ws k1 hz g1 o1 p1 => ?_)
  have hS : StrsAre ws (ws.map txtOf) := strs_of ws fun v hv => by
    obtain ⟨e, he, q⟩ := List.mem_map.mp (p1.mem_iff.mp hv)
    obtain ⟨k, tk, h1, _⟩ := g e he
    exact ⟨k, tk, by rw [← q]; exact h1⟩
  have p2 : (ws.map txtOf).Perm l := by
    have z := p1.map txtOf
    rw [List.map_map] at z
    exact z.trans pm
  have wl : ws.length ≤ sizeLine := by
    have : ws.length = l.length := by rw [← p2.length_eq, List.length_map]
    rw [this, sizeLine_eq]
    unfold scanBound at hb
    omega
  refine wpAny_bind (wpAny_newList ?_ wl)
  have hoL : (s1.heap.push (seqObj "list" ws.toArray 0)).get? s1.heap.objs.size = some (seqObj "list" ws.toArray 0) := Heap.get?_push_size _ rfl
  refine wpAny_bind (wpAny_holding (wpAny_call_entry slot_list_sort ⟨_, hoL, rfl⟩ entry_list_sort (list_sort_treeKAny strKind_oneLt hoL hS.keysOf (fun v1 v2 rest e => keyKind_strs (by rw [← e]; exact hS)) wl fun st hp hs => ⟨_, rfl, ?_⟩) (args_list_sort _)))
  obtain ⟨m, h1, h2, h3⟩ := sorted_out_str hS hp hs
  obtain ⟨c, hc2⟩ := sortedHeap_at (vs := ws) (out := (arrOf st).map (·.2)) hoL
  have lt : s.heap.objs.size ≤ s1.heap.objs.size := hz
  have kk : ∀ b u, s.heap.get? b = some u → (sortedHeap (s1.heap.push (seqObj "list" ws.toArray 0)) s1.heap.objs.size ws ((arrOf st).map (·.2))).get? b = some u := fun b u e => by
    have q := k1 b u e
    have hlt := Heap.lt_size q
    rw [sortedHeap_old (Nat.ne_of_lt hlt) (by rw [size_push']; exact Nat.lt_succ_of_lt hlt)]
    exact Heap.get?_push_of_some _ q
  have hm : (m.map V.str).length ≤ sizeLine := by
    rw [List.length_map, h2.length_eq, List.length_map]
    exact wl
  obtain ⟨h4, g4, d4, t4, o4⟩ := s1
  obtain rfl : g4 = s.gens := g1
  obtain rfl : o4 = s.os := o1
  have hn : H h4.objs.size = none := I.hok.fresh lt
  have J : L2.Inv X pins σ (upd H h4.objs.size (.lst (m.map V.str))) { s with heap := sortedHeap (h4.push (seqObj "list" ws.toArray 0)) h4.objs.size ws ((arrOf st).map (·.2)), gens := s.gens, drawn := d4, toks := t4 } :=
    I.call (ch := []) (Un.laid kk lt hn) (I.hok.laid kk lt ⟨hm, _, c, vals_of_strs h1, hc2⟩) I.bare (fun _ z => nomatch z)
  exact wpAny_pure ⟨_, rfl, .ref _, _, J, rfl, q m _ (h2.trans p2) h3 hn⟩
end
end SG

/-! More rules over own classes, with the written part as a letter. -/
namespace SG
open PySem PySem.Spec PyProof.Rows L2
section
variable {X : Cx} {K : PySem.W.Frag}
theorem passSL (σ : L2.St) : PassesAt (L2.CX X.prog X.w) X σ E0 := fun _ _ _ _ _ _ h => by
  obtain ⟨_, _, _, _, _, _, _, _, _, _, _, _, z⟩ := h
  exact z.elim
theorem k_fld {e : Expr} {f : Str} {pos : Pos} {ta : TE} (he : PE X e ta) (eK : X.K = K := by rfl) (hb : attributeBase e f X.env (eval e X.env) = eval e X.env := by rfl) : PE X (.Attribute e f pos) (tFld K ta f) := by
  subst eK
  exact pe_fld he hb
variable {cx : CXT} {k : Nat} {f : Addr} {fd : FuncData} {ps ks : List Str} {sp : Sp} {E : L2.St → XK} {x : Str} {p pos : Pos} {kws : List Keyword} {tk : TA} {g : List Value → List Value → List Value} {gV : List V → List V → List V}
/-- f(k = e, ..), what it lets out wished for at the slots -/
def tCallSK (sp : Sp) (gV : List V → List V → List V) (E : L2.St → XK) (tk : TA) : TE := fun σ H Q => tk σ H fun zs H1 => sp (gV [] zs) H1 Q (E σ)
theorem pe_callSK (F : FnOk X.prog X.w X.K X.mg X.base cx k f fd ps sp) (hr : Room k X.A) (hg : Gl X x) (hm : X.mg x = some (.ref f)) (hk : PySem.W.keepIn X.K (.ref f) = true) (hb : KBinds X.K fd ps ks g gV) (hx : ∀ σ, PassesAt cx X σ (E σ)) (hkw : PK X kws tk)
    (hall : (backToKw pos (keywordEach kws X.env)).all (·.1.isSome) = true := by rfl) (hks : (backToKw pos (keywordEach kws X.env)).filterMap (·.1) = ks := by rfl) (hdb : (x == ("__debug__" : Str)) = false := by decide)
    (hpl : ((backTo pos (starEach [] X.env)).any (·.1) || (backToKw pos (keywordEach kws X.env)).any (·.1.isNone)) = false := by rfl) :
    PE X (.Call (.Name x p) [] kws pos) (tCallSK sp gV E tk) := by
  refine ⟨fun pins s σ H Q I h => wpAny_Call_Name_kw (ld_glob I hg hm ?_ hdb)⟩
  refine PySem.W.callWith_KW0 (h₀ := X.base) I.ok.mod.kin hk hall (thn (hkw.run pos pins s σ H _ I h) ?_) hpl
  rintro ws s2 ⟨zs, H2, I2, rz, q2⟩
  refine ⟨I2.kIn, ?_⟩
  rw [hks]
  have r2 := hb.rel (Paired.nil : Vals [] []) rz
  have hl := r2.length
  rw [F.len _ _ _ _ q2] at hl
  refine wpAny_call (codeAny_mono (F.run X.A X.stack s2 H2 ⟨[], ks.zip ws⟩ _ _ Q (E σ) hr I2.env0 (hb.to s2 [] ws I2.kIn hl.symm) r2 q2) fun r s3 hq => ?_)
  cases r with
  | error e => exact hx σ pins H2 s2 e s3 I2 hq
  | ok fl =>
    cases fl with
    | ret u => exact I2.after hq
    | next => exact False.elim hq
    | brk => exact False.elim hq
    | cont => exact False.elim hq
end
/-- a value and two keywords, in the other order -/
def kwSelf {α : Type} : List α → List α → List α
  | [a], [y, x] => [a, x, y]
  | _, _ => []
theorem kwSelf_rel {vs : List V} {us : List Value} {zs : List V} {ws : List Value} (a : Vals vs us) (b : Vals zs ws) : Vals (kwSelf vs zs) (kwSelf us ws) := by
  rcases a with _ | ⟨r0, _ | ⟨_, _⟩⟩
  · exact .nil
  · rcases b with _ | ⟨r1, _ | ⟨r2, _ | ⟨_, _⟩⟩⟩
    · exact .nil
    · exact .nil
    · exact .cons r0 (.cons r2 (.cons r1 .nil))
    · exact .nil
  · exact .nil
theorem kwSelf_args {α : Type} {us ws : List α} (h : (kwSelf us ws).length = 3) : ∃ a x y, us = [a] ∧ ws = [y, x] := by
  match us, ws, h with
  | [a], [y, x], _ => exact ⟨a, x, y, rfl, rfl⟩
  | [], _, h => exact absurd h (by simp [kwSelf])
  | [_], [], h => exact absurd h (by simp [kwSelf])
  | [_], [_], h => exact absurd h (by simp [kwSelf])
  | [_], _ :: _ :: _ :: _, h => exact absurd h (by simp [kwSelf])
  | _ :: _ :: _, _, h => exact absurd h (by simp [kwSelf])
end SG

/-! Comprehensions whose values are told by the turn's number. -/
namespace SG
open PySem PySem.Spec PyProof.Rows L2
/-- each turn one value, new objects alone -/
theorem lc_val {J : It} {n : Nat} {G : Hp → Prop} {Y : Nat → Hp → V → Hp → Prop} (w : Walk J n G Y) {g : TG} {te : TE} {vs : List Nat} {σ : L2.St} {H1 : Hp} {D : Addr} {Qd : Hp → Prop} (hn : n ≤ 1000) (hD : H1 D = none) (f : Nat → V) (hG : ∀ H, Same H1 H → G H)
    (turn : ∀ (i : Nat) (x : V) (H2 H3 : Hp), i < n → Same H1 H2 → Y i H2 x H3 → ∀ R : VK, (∀ H6, Same H2 H6 → R (f i) H6) → g x (wipe σ vs) H3 fun σ2 H4 => wipe σ2 vs = wipe σ vs ∧ te σ2 H4 R)
    (done : ∀ (H2 : Hp), Same H1 H2 → H2 D = some (.lst ((List.range n).map f)) → Qd H2) :
    ∃ W : Nat → Nat → Hp → Prop, (∃ m, W 0 m (upd H1 D (.lst []))) ∧ ∀ i m H, W i m H →
      (J.stop i H ∧ Qd H) ∨ (J.go i H ∧ ∃ Nx : Hp → Prop, (∀ H', Nx H' → ∃ m', m' < m ∧ W (i + 1) m' H') ∧ ∀ x H', J.yld i H x H' → g x (wipe σ vs) H' fun σ2 H2 => wipe σ2 vs = wipe σ vs ∧ tYes σ2 H2 fun b H3 =>
        if b = true then te σ2 H3 fun y H4 => ∃ acc, H4 D = some (.lst acc) ∧ acc.length < sizeLine ∧ Nx (upd H4 D (.lst (acc ++ [y]))) else Nx H3) := by
  refine lc_it w (fun i H => Same H1 H ∧ H D = some (.lst ((List.range i).map f))) ⟨same_new hD, upd_same⟩ (fun i H _ q => hG H q.1) ?_ ?_
  · rintro i x H H2 hi ⟨s, hA⟩ hy
    have z := turn i x H H2 hi s hy (fun y H4 => ∃ acc, H4 D = some (.lst acc) ∧ acc.length < sizeLine ∧ (Same H1 (upd H4 D (.lst (acc ++ [y]))) ∧ upd H4 D (.lst (acc ++ [y])) D = some (.lst ((List.range (i + 1)).map f)))) (fun H6 s6 => ⟨_, s6 _ _ hA, small1000 (by simp; omega), same_upd_of (s.trans s6) hD, by rw [upd_same, List.range_succ, List.map_append]; rfl⟩)
    exact z
  · rintro H ⟨s, hA⟩
    exact done H s hA
/-- .. those that the test takes -/
theorem lc_fil {J : It} {n : Nat} {G : Hp → Prop} {Y : Nat → Hp → V → Hp → Prop} (w : Walk J n G Y) {g : TG} {tt : TT} {te : TE} {vs : List Nat} {σ : L2.St} {H1 : Hp} {D : Addr} {Qd : Hp → Prop} (hn : n ≤ 1000) (hD : H1 D = none) (p : Nat → Bool) (f : Nat → V) (hG : ∀ H, Same H1 H → G H)
    (turn : ∀ (i : Nat) (x : V) (H2 H3 : Hp), i < n → Same H1 H2 → Y i H2 x H3 → ∀ (R : VK) (N : Hp → Prop), (p i = true → ∀ H6, Same H2 H6 → R (f i) H6) → (p i = false → ∀ H6, Same H2 H6 → N H6) →
      g x (wipe σ vs) H3 fun σ2 H4 => wipe σ2 vs = wipe σ vs ∧ tt σ2 H4 fun b H5 => if b = true then te σ2 H5 R else N H5)
    (done : ∀ (H2 : Hp), Same H1 H2 → H2 D = some (.lst (((List.range n).filter p).map f)) → Qd H2) :
    ∃ W : Nat → Nat → Hp → Prop, (∃ m, W 0 m (upd H1 D (.lst []))) ∧ ∀ i m H, W i m H →
      (J.stop i H ∧ Qd H) ∨ (J.go i H ∧ ∃ Nx : Hp → Prop, (∀ H', Nx H' → ∃ m', m' < m ∧ W (i + 1) m' H') ∧ ∀ x H', J.yld i H x H' → g x (wipe σ vs) H' fun σ2 H2 => wipe σ2 vs = wipe σ vs ∧ tt σ2 H2 fun b H3 =>
        if b = true then te σ2 H3 fun y H4 => ∃ acc, H4 D = some (.lst acc) ∧ acc.length < sizeLine ∧ Nx (upd H4 D (.lst (acc ++ [y]))) else Nx H3) := by
  refine lc_it w (fun i H => Same H1 H ∧ H D = some (.lst (((List.range i).filter p).map f))) ⟨same_new hD, upd_same⟩ (fun i H _ q => hG H q.1) ?_ ?_
  · rintro i x H H2 hi ⟨s, hA⟩ hy
    refine turn i x H H2 hi s hy _ _ (fun hp H6 s6 => ⟨_, s6 _ _ hA, small1000 ?_, same_upd_of (s.trans s6) hD, ?_⟩) (fun hp H6 s6 => ⟨s.trans s6, ?_⟩)
    · rw [List.length_map]
      have := List.length_filter_le p (List.range i)
      rw [List.length_range] at this
      omega
    · rw [upd_same, List.range_succ, List.filter_append, List.map_append, List.filter_cons_of_pos hp]
      rfl
    · rw [s6 _ _ hA, List.range_succ, List.filter_append, List.map_append, List.filter_cons_of_neg (by rw [hp]; decide)]
      simp
  · rintro H ⟨s, hA⟩
    exact done H s hA
theorem same_none {H H2 : Hp} (s : Same H H2) {a : Addr} (h : H2 a = none) : H a = none := s.free h
/-- all of a list by their places -/
theorem all_range {n : Nat} (b : Nat → Bool) : (((List.range n).map b).all id) = decide (∀ i, i < n → b i = true) := by
  rw [List.all_map]
  by_cases h : ∀ i, i < n → b i = true
  · rw [decide_eq_true h, List.all_eq_true]
    intro i hi
    exact h i (List.mem_range.mp hi)
  · rw [decide_eq_false h]
    refine Bool.eq_false_iff.mpr fun z => h fun i hi => ?_
    exact List.all_eq_true.mp z i (List.mem_range.mpr hi)
theorem bls_map {n : Nat} (b : Nat → Bool) : (List.range n).map (fun i => V.bl (b i)) = ((List.range n).map b).map V.bl := by rw [List.map_map]; rfl
end SG

set_option maxHeartbeats 4000000
/-! Own exceptions as values: made, by position and by keywords; their attributes; isinstance. -/
namespace SG
open PySem PySem.Spec PyProof PyProof.Rows L2
section
open PySem.HandSPX PySem.Calls
variable {pr : Program} {wo : World} {B0 : Around} {Ee : Value → Shared → Prop} {Rr : Result → Shared → Prop} {hp : Heap} {gs : Array GenState} {dr : Drawn} {tk : Nat} {os : OsState}
variable {nm qn : Str} {C N : Addr} {bs bm bmB : List Value} {hdct : Bool} {sn : List Str} {sub : List Value} {ab : Bool} {col : Option Bool} {dd : Option Addr} {k0 k1 k2 k3 k5 : Option Value} {B newId initId : String}
theorem look_new (F : ExcBaseFacts B newId initId bmB) (same : ∀ Y : String, bm.contains (.type Y) = bmB.contains (.type Y)) {pos : List Value} {kw : List (Str × Value)} {Q : Unit → Shared → Prop}
    (at_ : hp.get? C = some (excClassObj nm qn C N bs bm hdct sn sub ab col dd k0 k1 k2 k3 k5 newId)) (then_ : Q () ⟨hp, gs, dr, tk, os⟩) : wpAny (model pr wo) B0 (checkBuiltinCall newId ⟨.ref C :: pos, kw⟩) Q Ee ⟨hp, gs, dr, tk, os⟩ := by
  have star := F.noStar
  have inB : (Value.ref C :: bm).contains (.type B) = true := by
    rw [List.contains_cons, same, F.hasB, Bool.or_true]
  simp only [checkBuiltinCall, F.newKind, F.newSplit, F.newRow]
  repeat (first
    | refine wpAny_loadPart_at at_ ?_
    | (refine wpAny_isSubtype_exc at_ ?_; rw [inB])
    | refine wpAny_staticBase_exc at_ ?_
    | refine wpAny_madeBy_exc at_ ?_
    | simp only [bne_self_eq_false, Bool.false_eq_true, if_false]
    | wp_step)
  exact then_
theorem born (F : ExcBaseFacts B newId initId bmB) (same : ∀ Y : String, bm.contains (.type Y) = bmB.contains (.type Y)) {pos : List Value} {kw : List (Str × Value)}
    (at_ : hp.get? C = some (excClassObj nm qn C N bs bm hdct sn sub ab col dd k0 k1 k2 k3 k5 newId)) (few : pos.length ≤ sizeLine)
    (then_ : Rr (.ok (.ret (.ref (hp.objs.size + 1)))) ⟨(hp.push { cls := .type "tuple", data := .seq pos.toArray }).push { cls := .ref C, data := .fields #[.ref hp.objs.size, .none, .none, .none, .bool false, .none] }, gs, dr, tk, os⟩) :
    codeAny (model pr wo) B0 (.builtin newId ⟨.ref C :: pos, kw⟩) Rr ⟨hp, gs, dr, tk, os⟩ := by
  have ends := F.ends
  have inB : (Value.ref C :: bm).contains (.type B) = true := by
    rw [List.contains_cons, same, F.hasB, Bool.or_true]
  have outA : (Value.ref C :: bm).contains (.type "AttributeError") = false := by
    rw [List.contains_cons, same, F.noAttr]
    rfl
  have outN : (Value.ref C :: bm).contains (.type "NameError") = false := by
    rw [List.contains_cons, same, F.noName]
    rfl
  refine codeAny_builtinAt F.entry ?_
  unfold Builtin.«BaseException.__new__»
  refine PySem.wpAt_bind ?_
  show PySem.wpAt _ _ _ (stack >>= _) _ _ _
  refine PySem.wpAt_bind (PySem.wpAt_stack fun _ _ => PySem.wpAt_of_wpAny ?_)
  wp_walk
  refine PySem.wpAt_of_wpAny ?_
  rw [F.owner]
  repeat (first
    | with_reducible refine wpAny_madeHere_exc F.canon at_ ?_
    | with_reducible refine wpAny_loadPart_at at_ ?_
    | (with_reducible refine wpAny_isSubtype_exc at_ ?_; first | rw [inB] | rw [outA] | rw [outN])
    | wp_step)
  show Rr _ _
  rw [Heap.size_push]
  exact then_
theorem made (F : ExcBaseFacts B newId initId bmB) (same : ∀ Y : String, bm.contains (.type Y) = bmB.contains (.type Y)) {pos : List Value} {kw : List (Str × Value)} {fI : Addr} {Q : Fin → Shared → Prop}
    (at_ : hp.get? C = some (excClassObj nm qn C N bs bm hdct sn sub ab col dd k0 k1 k2 k3 k5 newId)) (few : pos.length ≤ sizeLine)
    (li : W.Looks (model pr wo) hp (typeLookup (.ref C) "__init__") (some (.ref fI))) (lb : ∀ y, W.Looks (model pr wo) hp (bindSpecial (.ref fI) y) (.ref fI, [y]))
    (then_ : codeAny (model pr wo) B0 (.call (.ref fI) ⟨.ref (hp.objs.size + 1) :: pos, kw⟩) (fun r s2 => match r with
      | .ok (.ret v) => v = .none ∧ Q (.done (.ret (.ref (hp.objs.size + 1)))) s2
      | .ok _ => False
      | .error e => Ee e s2) ⟨(hp.push (W.kdv_tup pos)).push (excO C hp.objs.size), gs, dr, tk, os⟩) :
    wpAny (model pr wo) B0 (Builtin.«type.__call__» ⟨.ref C :: pos, kw⟩) Q Ee ⟨hp, gs, dr, tk, os⟩ := by
  repeat (first
    | with_reducible refine wpAny_loadPart_at at_ ?_
    | with_reducible refine wpAny_madeBy_exc at_ ?_
    | wp_step)
  refine codeAny_call_builtin_code (Code.quiet_builtin _ F.quiet) (look_new F same at_ ?_)
  refine born F same at_ few ?_
  show wpAny _ _ _ _ _ _
  have stay : ∀ b o, hp.get? b = some o → ((hp.push (W.kdv_tup pos)).push (excO C hp.objs.size)).get? b = some o := fun _ _ e => Heap.get?_push_of_some _ (Heap.get?_push_of_some _ e)
  have at2 := stay _ _ at_
  have atE : ((hp.push (W.kdv_tup pos)).push (excO C hp.objs.size)).get? (hp.objs.size + 1) = some (excO C hp.objs.size) := by heap_get
  have inC : (Value.ref C :: bm).contains (.ref C) = true := by simp
  have li2 := li.keeps stay
  have lb2 := (lb (.ref (hp.objs.size + 1))).keeps stay
  unfold isInstance
  repeat (first
    | with_reducible refine wpAny_loadPart_at atE ?_
    | (with_reducible refine wpAny_isSubtype_exc at2 ?_; rw [inC])
    | wp_step)
  show wpAny _ _ (typeLookup (.ref C) _) _ _ _
  refine li2.at ?_
  refine wpAny_holding (wpAny_bind (lb2.at ?_))
  refine wpAny_bind (wpAny_call (codeAny_mono then_ fun r s2 z => ?_))
  rcases r with e | (v | _ | _ | _)
  all_goals first
    | exact z
    | exact False.elim z
    | (obtain ⟨rfl, z⟩ := z; first | exact wpAny_pure (wpAny_pure z) | (wp_walk; exact z))
theorem called (F : ExcBaseFacts B newId initId bmB) (same : ∀ Y : String, bm.contains (.type Y) = bmB.contains (.type Y)) {pos : List Value} {kw : List (Str × Value)} {fI : Addr}
    (at_ : hp.get? C = some (excClassObj nm qn C N bs bm hdct sn sub ab col dd k0 k1 k2 k3 k5 newId)) (few : pos.length ≤ sizeLine)
    (li : W.Looks (model pr wo) hp (typeLookup (.ref C) "__init__") (some (.ref fI))) (lb : ∀ y, W.Looks (model pr wo) hp (bindSpecial (.ref fI) y) (.ref fI, [y]))
    (then_ : codeAny (model pr wo) (B0.under (.builtin "type.__call__" ⟨.ref C :: pos, kw⟩)) (.call (.ref fI) ⟨.ref (hp.objs.size + 1) :: pos, kw⟩) (W.InitBack (hp.objs.size + 1) Rr) ⟨(hp.push (W.kdv_tup pos)).push (excO C hp.objs.size), gs, dr, tk, os⟩) :
    codeAny (model pr wo) B0 (.call (.ref C) ⟨pos, kw⟩) Rr ⟨hp, gs, dr, tk, os⟩ := by
  have c1 := tc_lookup
  have c2 := tc_bind (.ref C)
  have isTy : (⟨hp, gs, dr, tk, os⟩ : Shared).TypeIs (.ref C) "type" := ⟨_, at_, rfl⟩
  refine codeAny_of_tree ?_
  show wpAny _ _ (callAny (.ref C) _) _ _ _
  repeat (any_goals (first
    | assumption
    | with_reducible refine wpAny_loadPart_at at_ ?_
    | wp_step))
  refine ⟨rfl, ?_⟩
  refine codeAny_call_builtin_at (Code.quiet_builtin _ (by decide +kernel)) entry_typeCall (wpAny_check_type_call_sub at_ (made F same at_ few li lb ?_))
  refine codeAny_mono then_ fun r s2 z => ?_
  rcases r with e | (v | _ | _ | _) <;> exact z
end
end SG

set_option maxHeartbeats 4000000
/-! Own exceptions as values: the rules. -/
namespace SG
open PySem PySem.Spec PyProof.Rows L2
section
open PySem.HandSPX Builtin Builtin.ObjectAttr
variable {pr : Program} {wo : World} {B0 : Around} {Rr : Result → Shared → Prop} {hp : Heap} {gs : Array GenState} {dr : Drawn} {tk : Nat} {os : OsState}
/-- a further store to such an exception -/
theorem next_store {K : W.Frag} {name : Str} {tz : Tok} {v : Value} {x C dx : Addr} {fv : Array Value} {cd : ClassData} {m0 : Str → Option Value} {nl : List Str} (X : K.In hp)
    (at_ : hp.get? x = some { cls := .ref C, dict := some dx, data := .fields fv }) (ns : hp.Ns1 dx m0) (wi : Within m0 nl) (few : nl.length ≤ 1000) (cl : W.clsIn K C = some cd) (over : OverEx cd.mro) (hd : cd.hasDict = true)
    (no : W.findIn K (.ref C) name = some none)
    (then_ : ∀ h2 t2, (∀ b o, b ≠ dx → hp.get? b = some o → h2.get? b = some o) → h2.Ns1 dx (fun y => if y = name then some v else m0 y) → Rr (.ok (.ret .none)) ⟨h2, gs, dr, t2, os⟩) :
    codeAny (model pr wo) B0 (.call (.builtin "object.__setattr__") ⟨[.ref x, .str name tz, v], []⟩) Rr ⟨hp, gs, dr, tk, os⟩ := by
  obtain ⟨oD, _, _, getD, _, _⟩ := ns.count wi
  have J : W.InstAt hp x { cls := .ref C, dict := some dx, data := .fields fv } C (some oD) := ⟨at_, rfl, rfl, getD⟩
  have S1 := F.store_object
  have hasO : cd.mro.contains (.type "object") = true := by
    rw [over.has]
    decide +kernel
  have isO : W.Looks (model pr wo) hp (isInstance (.ref x) (.type "object")) true := J.type.andThen (W.looks_mroIn X (by
    unfold W.mroIn
    rw [cl, Option.bind_some, if_neg (by rw [over.some]; decide), hasO]))
  refine codeAny_call_builtin S1.slot.plain S1.entry ?_
  refine @W.check_slot (model pr wo) _ _ ⟨hp, gs, dr, tk, os⟩ "object.__setattr__" "object" "__setattr__" (.ref x) [.str name tz, v] [] _ S1.kind S1.split isO (S1.args (.ref x) (.str name tz) v) ?_
  have l1 : W.Looks (model pr wo) hp (mroOf (.ref C)) cd.mro := (W.looks_clsIn X cl).andThen .now
  have l2 : W.Looks (model pr wo) hp (storeTaker? none) none := .now
  have l3 : W.Looks (model pr wo) hp (classData C) cd := W.looks_clsIn X cl
  rw [W.osa_eq, refuse_eq]
  refine wpAny_bind (wpAny_bind (J.type.at (wpAny_bind (l1.at ?_))))
  rw [over.through]
  refine wpAny_pure (wpAny_bind (J.type.at (wpAny_bind ((W.looks_findIn X no).at (wpAny_bind (l2.at ?_))))))
  show wpAny _ _ (storeInOwnDict (.ref x) (.ref C) (.str name tz) name v false) _ _ _
  obtain ⟨c1, c2, c3, c4, c5, c6, c7, c8, c9, c10, c11⟩ := cd
  dsimp only at hd
  subst hd
  unfold storeInOwnDict ownDictForStores
  repeat (first
    | with_reducible refine PySem.OEX.store_in_old ns wi few ?_
    | with_reducible refine wpAny_loadPart_at at_ ?_
    | with_reducible refine l3.at ?_
    | wp_step)
  intro h2 t2 n2 sb
  exact then_ h2 t2 (fun b o hb e => (sb.2 b hb).trans e) n2
end
section
variable {X : Cx} {pins : List (Addr × Obj)} {σ : L2.St} {H : Hp} {s : Shared} {a C dx : Addr} {f : Str} {fs : List (Str × V)} {y : V} {u : Value} {Q : Unit → Shared → Prop} {E : Value → Shared → Prop} {A : Around}
theorem next_stored (T : OwnX X.K C) (I : Inv X pins σ H s) (e : H a = some (exo a C (some dx))) (ed : H dx = some (exd dx fs)) (hl : fs.length ≤ 900) (hno : PySem.W.findIn X.K (.ref C) f = some none) (ry : RelV y u)
    (h : ∀ s2, Inv X pins σ (upd H dx (exd dx ((f, y) :: fs))) s2 → Q () s2) : wpAny (model X.prog X.w) A (setAttr (.ref a) f u) Q E s := by
  obtain ⟨nm, q, N, bs, bm, sn, sub, ab, col, dd, k0, k1, k2, k3, k5, hC, hb⟩ := T.cls
  have hc : PySem.W.clsIn X.K C = some { name := nm, bases := bs, mro := .ref C :: bm, ns := N, qualname := q, hasDict := true, slotNames := sn, subclasses := sub, abstract := ab, collection := col, hasDel := false } := by
    unfold PySem.W.clsIn
    rw [hC] <;> rfl
  obtain ⟨t1, ho⟩ := exo_at I.hok e
  obtain ⟨mA, hns, rel⟩ := exd_at I.hok ed
  have wi := within_of rel
  obtain ⟨hp, g, d, t, os⟩ := s
  obtain ⟨oD, _, _, getD, _, _⟩ := hns.count wi
  refine PySem.W.set_plain I.kIn (ox := { cls := .ref C, dict := some dx, data := .fields #[.ref t1, .none, .none, .none, .bool false, .none] }) (od := some oD) ⟨ho, rfl, rfl, getD⟩ T.sa ?_
  refine next_store I.kIn ho hns wi (by rw [List.length_map]; omega) hc (hb.more C) rfl hno fun h2 t2 k n2 => ?_
  have there : ∃ o, h2.get? dx = some o := by
    obtain ⟨o, _, _, e2, _⟩ := n2
    exact ⟨o, e2⟩
  exact h _ (I.write (t' := t2) (x := dx) (e := dx) (o := exd dx ((f, y) :: fs)) (by rw [ed]; exact True.intro) (.inl rfl) k there (exd_ok n2 (relO_put ry rel)))
end
/-- self.f = y in the __init__ of such a class, the second one -/
def tTwo (K : PySem.W.Frag) (f : Str) (to te : TE) : TS := fun D σ H => te σ H fun y H1 => to σ H1 fun x H2 => ∃ (a C dx : Addr) (fs : List (Str × V)), x = .ref a ∧ OwnX K C ∧ PySem.W.findIn K (.ref C) f = some none ∧ H2 a = some (exo a C (some dx)) ∧ H2 dx = some (exd dx fs) ∧ fs.length ≤ 900 ∧
  D.nx σ (upd H2 dx (exd dx ((f, y) :: fs)))
theorem ps_two {X : Cx} {o e : Expr} {to te : TE} {f : Str} {p2 pos : Pos} (ho : PE X o to) (he : PE X e te) (hs : swapsWith e (some (.Attribute o f p2)) pos.line X.env = pure false := by rfl) : PS X (.Assign [.Attribute o f p2] e pos) (tTwo X.K f to te) := by
  refine ⟨fun pins s σ H D I h => plainObj_wpAny_Assign_Attribute (thn (he.run pins s σ H _ I h) ?_) hs⟩
  rintro v s1 ⟨y, H1, I1, r1, q1⟩
  refine thn (ho.run pins s1 σ H1 _ I1 q1) ?_
  rintro u s2 ⟨x, H2, I2, r2, a, C, dx, fs, rfl, T, hno, ea, ed, fl, q⟩
  obtain rfl : u = Value.ref a := r2
  exact next_stored T I2 ea ed fl hno r1 fun s3 J => ⟨σ, _, J, q⟩
/-! ### made as a value -/
section
variable {X : Cx} {k : Nat} {f C : Addr} {fd : FuncData} {ps ks : List Str} {sp : Sp} {x : Str} {p pos : Pos} {e : Expr} {es : List Expr} {kws : List Keyword} {t tk : TA} {g : List Value → List Value → List Value} {gV : List V → List V → List V}
theorem run_mkX {pins : List (Addr × Obj)} {σ : L2.St} {H : Hp} {s : Shared} {Q : VK} {us ws : List Value} {vs zs : List V} {kw : List (Str × Value)} (T : OwnX X.K C) (iC : PySem.W.findIn X.K (.ref C) "__init__" = some (some (.ref f))) (tI : PySem.W.typeIn X.K (.ref f) = some (.type "function"))
    (F1 : FnOk X.prog X.w X.K X.mg X.base CX0 k f fd ps sp) (hr : Room (k + 1) X.A) (few : us.length ≤ 1000)
    (hb : ∀ (st : Shared) (y : Addr), X.K.In st.heap → (g (.ref y :: us) ws).length = ps.length → BindsTo st fd ⟨.ref y :: us, kw⟩ (ps.zip (g (.ref y :: us) ws))) (rl : ∀ y : Addr, Vals (gV (.ref y :: vs) zs) (g (.ref y :: us) ws)) (I : Inv X pins σ H s)
    (h : ∀ y, H y = none → sp (gV (.ref y :: vs) zs) (upd H y (exo y C none)) (fun v H2 => v = .non ∧ Q (.ref y) H2) E0) :
    wpAny (model X.prog X.w) X.A (call (.ref C) us kw) (EP X pins σ Q) X.xe s := by
  obtain ⟨nm, q, N, bs, bm, sn, sub, ab, col, dd, k0, k1, k2, k3, k5, hC, hbm⟩ := T.cls
  obtain ⟨hp, gn, dr, tz, os⟩ := s
  have le := Nat.le_succ hp.objs.size
  have hn : H (hp.objs.size + 1) = none := I.hok.fresh le
  have kk : ∀ b o, hp.get? b = some o → ((hp.push (PySem.W.kdv_tup us)).push (PySem.HandSPX.excO C hp.objs.size)).get? b = some o := fun b o z => Heap.get?_push_of_some _ (Heap.get?_push_of_some _ z)
  have at1 : ((hp.push (PySem.W.kdv_tup us)).push (PySem.HandSPX.excO C hp.objs.size)).get? (hp.objs.size + 1) = some (PySem.HandSPX.excO C hp.objs.size) := by heap_get
  have I2 := I.laid (t' := tz) (a := hp.objs.size + 1) (o := exo (hp.objs.size + 1) C none) (h' := (hp.push (PySem.W.kdv_tup us)).push (PySem.HandSPX.excO C hp.objs.size)) kk le (exo_ok at1)
  have hq := h _ hn
  have r2 := rl (hp.objs.size + 1)
  have hl := r2.length
  rw [F1.len _ _ _ _ hq] at hl
  refine wpAny_call (called PySem.F.excBase_Exception hbm.has (I.kIn _ _ hC) (Nat.le_trans few (by rw [sizeLine_eq]; decide)) (PySem.W.looks_findIn I.kIn iC) (fun z => PySem.W.bind_fn I.kIn z tI) ?_)
  refine codeAny_mono (F1.run _ X.stack _ _ ⟨Value.ref (hp.objs.size + 1) :: us, kw⟩ _ _ _ E0 (hr.make C us kw) (I2.env0.make C us kw) (hb _ _ I2.kIn hl.symm) r2 hq) ?_
  intro r s2 hq2
  cases r with
  | error er => exact False.elim hq2
  | ok fl =>
    cases fl with
    | next => exact False.elim hq2
    | brk => exact False.elim hq2
    | cont => exact False.elim hq2
    | ret u =>
      obtain ⟨v, H3, I3, rv, rfl, q3⟩ := I2.after hq2
      exact ⟨rv, ⟨V.ref (hp.objs.size + 1), H3, I3, rfl, q3⟩⟩
/-- C(e, ..), an exception as a value -/
def tMkX (C : Addr) (sp : Sp) (t : TA) : TE := fun σ H Q => t σ H fun vs H1 => vs.length ≤ 1000 ∧ ∀ y, H1 y = none → sp (.ref y :: vs) (upd H1 y (exo y C none)) (fun v H2 => v = .non ∧ Q (.ref y) H2) E0
theorem pe_mkX (T : OwnX X.K C) (iC : PySem.W.findIn X.K (.ref C) "__init__" = some (some (.ref f))) (tI : PySem.W.typeIn X.K (.ref f) = some (.type "function")) (F1 : FnOk X.prog X.w X.K X.mg X.base CX0 k f fd ps sp) (hr : Room (k + 1) X.A) (hg : Gl X x) (hm : X.mg x = some (.ref C)) (hb : Binds X.K fd ps []) (ha : PA X (e :: es) t)
    (hdb : (x == ("__debug__" : Str)) = false := by decide) (he : starEach (e :: es) X.env = (false, eval e X.env) :: starEach es X.env := by rfl) (hpl : (backTo pos (starEach es X.env)).any (·.1) = false := by rfl) :
    PE X (.Call (.Name x p) (e :: es) [] pos) (tMkX C sp t) := by
  refine ⟨fun pins s σ H Q I h => wpAny_Call_Name_kw (ld_glob I hg hm ?_ hdb)⟩
  refine PySem.W.callWith_K (h₀ := X.base) I.ok.mod.kin T.kC (thn (ha.run pos pins s σ H _ I h) ?_) he hpl
  rintro us s1 ⟨vs, H1, I1, r, few, q⟩
  refine ⟨I1.kIn, ?_⟩
  refine run_mkX (g := fun a _ => a) (gV := fun a _ => a) (ws := []) (zs := []) T iC tI F1 hr (by rw [List.nil_append, ← Paired.length r]; exact few) (fun st y X1 hl => ?_) (fun y => .cons rfl r) I1 q
  have z := hb st (.ref y :: us) X1 (by rw [List.append_nil]; exact hl)
  rw [List.append_nil] at z
  exact z
/-- C(k = e, ..) -/
def tMkXK (C : Addr) (sp : Sp) (gV : List V → List V → List V) (tk : TA) : TE := fun σ H Q => tk σ H fun zs H1 => ∀ y, H1 y = none → sp (gV [.ref y] zs) (upd H1 y (exo y C none)) (fun v H2 => v = .non ∧ Q (.ref y) H2) E0
theorem pe_mkXK (T : OwnX X.K C) (iC : PySem.W.findIn X.K (.ref C) "__init__" = some (some (.ref f))) (tI : PySem.W.typeIn X.K (.ref f) = some (.type "function")) (F1 : FnOk X.prog X.w X.K X.mg X.base CX0 k f fd ps sp) (hr : Room (k + 1) X.A) (hg : Gl X x) (hm : X.mg x = some (.ref C)) (hb : KBinds X.K fd ps ks g gV) (hkw : PK X kws tk)
    (hall : (backToKw pos (keywordEach kws X.env)).all (·.1.isSome) = true := by rfl) (hks : (backToKw pos (keywordEach kws X.env)).filterMap (·.1) = ks := by rfl) (hdb : (x == ("__debug__" : Str)) = false := by decide)
    (hpl : ((backTo pos (starEach [] X.env)).any (·.1) || (backToKw pos (keywordEach kws X.env)).any (·.1.isNone)) = false := by rfl) :
    PE X (.Call (.Name x p) [] kws pos) (tMkXK C sp gV tk) := by
  refine ⟨fun pins s σ H Q I h => wpAny_Call_Name_kw (ld_glob I hg hm ?_ hdb)⟩
  refine PySem.W.callWith_KW0 (h₀ := X.base) I.ok.mod.kin T.kC hall (thn (hkw.run pos pins s σ H _ I h) ?_) hpl
  rintro ws s2 ⟨zs, H2, I2, rz, q2⟩
  refine ⟨I2.kIn, ?_⟩
  rw [hks]
  exact run_mkX (us := []) (vs := []) (ws := ws) (zs := zs) T iC tI F1 hr (by decide) (fun st y X1 hl => hb.to st [.ref y] ws X1 hl) (fun y => hb.rel (.cons rfl .nil) rz) I2 q2
end
/-- C(), the class has no __init__ of its own -/
theorem pe_mkX0 {X : Cx} {C : Addr} {bmB : List Value} {B newId initId : String} {x : Str} {p pos : Pos} (F : ExcBaseFacts B newId initId bmB) (q : PySem.W.excIn X.K C bmB newId = true) (kC : PySem.W.keepIn X.K (.ref C) = true) (hg : Gl X x) (gC : X.mg x = some (.ref C))
    (hdb : (x == ("__debug__" : Str)) = false := by decide) : PE X (.Call (.Name x p) [] [] pos) (fun σ H Q => ∀ y, H y = none → Q (.ref y) (upd H y (exo y C none))) := by
  refine ⟨fun pins s σ H Q I h => wpAny_Call_Name_kw (ld_glob I hg gC ?_ hdb)⟩
  refine PySem.W.callWith_K0 I.kIn kC ?_
  show wpAny _ _ (call (.ref C) []) _ _ _
  obtain ⟨bm, N, nm, qn, bs, hdct, sn, sub, ab, col, dd, k0, k1, k2, k3, k5, mN, hC, hN, hni, T⟩ := exc_obj I.kIn q
  obtain ⟨hp, gn, dr, tz, os⟩ := s
  refine wpAny_call_exc_subT F T hC hN hni (fun h' y hm => ?_) (by rw [sizeLine_eq]; decide)
  have hn : H y = none := I.hok.gone hm.new
  obtain ⟨t, ht, _, _⟩ := hm.there
  exact ⟨.ref y, upd H y (exo y C none), I.laidN hm.keeps hm.new hn (exo_ok ht), rfl, h y hn⟩
/-! ### its attributes, its classes -/
/-- e.f -/
def tXv (K : PySem.W.Frag) (f : Str) (te : TE) : TE := fun σ H Q => te σ H fun x H1 => ∃ (a C dd : Addr) (fs : List (Str × V)) (v : V), x = .ref a ∧ XfC K C ∧ PySem.W.findIn K (.ref C) f = some none ∧ H1 a = some (exo a C (some dd)) ∧ H1 dd = some (exd dd fs) ∧ fs.lookup f = some v ∧ Q v H1
theorem pe_xv {X : Cx} {e : Expr} {te : TE} {pos : Pos} {n : Str} (he : PE X e te) (hb : attributeBase e n X.env (eval e X.env) = eval e X.env := by rfl) : PE X (.Attribute e n pos) (tXv X.K n te) := by
  refine ⟨fun pins s σ H Q I h => attr_of hb (thn (he.run pins s σ H _ I h) ?_)⟩
  rintro u s1 ⟨x, H1, I1, rx, a, C, dd, fs, v, rfl, T, hno, ea, ed, l, q⟩
  obtain rfl : u = Value.ref a := rx
  obtain ⟨t1, ho⟩ := exo_at I1.hok ea
  obtain ⟨mA, hns, hr⟩ := exd_at I1.hok ed
  obtain ⟨od, hod, hl⟩ := lookIn_ns hns
  obtain ⟨u, hu, ru⟩ := RelO.some_of (v := v) (o := mA n) (by rw [← l]; exact hr n)
  have J : PySem.W.InstAt s1.heap a { cls := .ref C, dict := some dd, data := .fields #[.ref t1, .none, .none, .none, .bool false, .none] } C (some od) := ⟨ho, rfl, rfl, hod⟩
  exact HandSPX.exc_get I1.kIn J T.ga T.gg T.exC (PySem.W.findObj_own T.hdC hno rfl (by rw [hl, hu])) (handed_of ru) ⟨v, H1, I1.tok _, ru, q⟩
/-- an exception stands at a, its dict too if it has one -/
def XAt (H : Hp) (a C : Addr) : Prop := H a = some (exo a C none) ∨ ∃ (dd : Addr) (fs : List (Str × V)), H a = some (exo a C (some dd)) ∧ H dd = some (exd dd fs)
/-- isinstance(e, c) -/
def rIsV (K : PySem.W.Frag) : List V → Hp → VK → Prop := fun xs H Q => ∃ (a D : Addr) (c : V) (cv : Value) (b : Bool), xs = [.ref a, c] ∧ XAt H a D ∧ ExcC K D ∧ (PySem.W.clsIn K D).isSome = true ∧ (∀ u, RelV c u → u = cv) ∧ PySem.W.kitOne K (.ref D) cv = some b ∧ Q (.bl b) H
theorem call_isV {X : Cx} {K : PySem.W.Frag} (eK : X.K = K := by rfl) : CallR X (.builtin "isinstance") (rIsV K) := by
  subst eK
  intro pins s σ H xs us Q I r h
  obtain ⟨a, D, c, cv, b, rfl, hx, C, hc, hcv, e, q⟩ := h
  have key : ∀ {ox : Obj} {od : Option Obj}, PySem.W.InstAt s.heap a ox D od → wpAny (model X.prog X.w) X.A (call (.builtin "isinstance") [.ref a, cv]) (EP X pins σ Q) X.xe s := fun J =>
    PySem.W.kia_one (PySem.W.kitx_exc hc C.hg C.hk C.hs C.ha C.hn C.ht C.hm) I.kIn J e (fun z => nomatch z) fun tk => ⟨.bl b, H, I.kept (t' := tk) fun _ _ z => z, rfl, q⟩
  cases r with
  | cons rx rr =>
    cases rr with
    | cons rt rr =>
      cases rr
      cases rx
      obtain rfl := hcv _ rt
      rcases hx with ea | ⟨dd, fs, ea, ed⟩
      · obtain ⟨t1, ho⟩ := exo_at I.hok ea
        exact key (od := none) ⟨ho, rfl, rfl, trivial⟩
      · obtain ⟨t1, ho⟩ := exo_at I.hok ea
        obtain ⟨mA, hns, hr⟩ := exd_at I.hok ed
        obtain ⟨od, hod, hl⟩ := lookIn_ns hns
        exact key (od := some od) ⟨ho, rfl, rfl, hod⟩
end SG

/-! What the written part says of an own exception class, as one truth. -/
namespace SG
open PySem PySem.Spec PyProof.Rows L2
/-- its instances can be asked for attributes and classes -/
structure XC (K : PySem.W.Frag) (C : Addr) : Prop where
  xf : XfC K C
  ex : ExcC K C
  cl : (PySem.W.clsIn K C).isSome = true
def xcB (K : PySem.W.Frag) (C : Addr) : Bool :=
  xfB K C && (decide (PySem.W.findIn K (.ref C) "__class__" = some (some (.builtin "object.__class__"))) && (decide (PySem.W.specialIn K (.builtin "object.__class__") "__get__" = some (some (.builtin "getset_descriptor.__get__"))) && (decide (PySem.W.takesIn K (.builtin "object.__class__") = some true) &&
    (decide (PySem.W.mroIn K C (.type "object") = some true) && (PySem.W.clsIn K C).isSome))))
theorem xcB_ok {K : PySem.W.Frag} {C : Addr} (h : xcB K C = true) : XC K C := by
  unfold xcB at h
  obtain ⟨h1, h⟩ := Bool.and_eq_true_iff.mp h
  obtain ⟨h2, h⟩ := Bool.and_eq_true_iff.mp h
  obtain ⟨h3, h⟩ := Bool.and_eq_true_iff.mp h
  obtain ⟨h4, h⟩ := Bool.and_eq_true_iff.mp h
  obtain ⟨h5, h6⟩ := Bool.and_eq_true_iff.mp h
  have xf := xfB_ok h1
  exact ⟨xf, ⟨xf.ga, xf.gg, xf.exC, xf.hdC, of_decide_eq_true h2, of_decide_eq_true h3, of_decide_eq_true h4, of_decide_eq_true h5⟩, h6⟩
def ownB (K : PySem.W.Frag) (S C : Addr) : Bool :=
  excB K C [.ref S, .type "Exception", .type "BaseException", .type "object"] "Exception.__new__" && (decide (PySem.W.findIn K (.ref C) "__setattr__" = some (some (.builtin "object.__setattr__"))) && (decide (PySem.W.subIn K (.ref C) (.type "BaseException") = some true) && (decide (PySem.W.typeIn K (.ref C) = some (.type "type")) && PySem.W.keepIn K (.ref C))))
theorem ownB_ok {K : PySem.W.Frag} {S C : Addr} (h : ownB K S C = true) : OwnX K C := by
  unfold ownB at h
  obtain ⟨h1, h⟩ := Bool.and_eq_true_iff.mp h
  obtain ⟨h2, h⟩ := Bool.and_eq_true_iff.mp h
  obtain ⟨h3, h⟩ := Bool.and_eq_true_iff.mp h
  obtain ⟨h4, h5⟩ := Bool.and_eq_true_iff.mp h
  obtain ⟨nm, q, N, bs, sn, sub, ab, col, dd, m0, m1, m2, m3, m5, e⟩ := excB_ok h1
  exact ⟨⟨nm, q, N, bs, _, sn, sub, ab, col, dd, m0, m1, m2, m3, m5, e, ⟨[S], rfl⟩⟩, of_decide_eq_true h2, of_decide_eq_true h3, of_decide_eq_true h4, h5⟩
/-- what a class is of -/
def kitsB (K : PySem.W.Frag) (S C : Addr) : Bool :=
  decide (PySem.W.kitOne K (.ref C) (.ref S) = some true) && (decide (PySem.W.kitOne K (.ref C) (.type "Exception") = some true) && (decide (PySem.W.kitOne K (.ref C) (.type "ValueError") = some false) && (decide (PySem.W.kitOne K (.ref C) (.type "LookupError") = some false) &&
    (decide (PySem.W.kitOne K (.ref C) (.type "ArithmeticError") = some false) && decide (PySem.W.kitOne K (.ref C) (.type "TypeError") = some false)))))
structure Kits (K : PySem.W.Frag) (S C : Addr) : Prop where
  s : PySem.W.kitOne K (.ref C) (.ref S) = some true
  e : PySem.W.kitOne K (.ref C) (.type "Exception") = some true
  v : PySem.W.kitOne K (.ref C) (.type "ValueError") = some false
  l : PySem.W.kitOne K (.ref C) (.type "LookupError") = some false
  a : PySem.W.kitOne K (.ref C) (.type "ArithmeticError") = some false
  t : PySem.W.kitOne K (.ref C) (.type "TypeError") = some false
theorem kitsB_ok {K : PySem.W.Frag} {S C : Addr} (h : kitsB K S C = true) : Kits K S C := by
  unfold kitsB at h
  obtain ⟨h1, h⟩ := Bool.and_eq_true_iff.mp h
  obtain ⟨h2, h⟩ := Bool.and_eq_true_iff.mp h
  obtain ⟨h3, h⟩ := Bool.and_eq_true_iff.mp h
  obtain ⟨h4, h⟩ := Bool.and_eq_true_iff.mp h
  obtain ⟨h5, h6⟩ := Bool.and_eq_true_iff.mp h
  exact ⟨of_decide_eq_true h1, of_decide_eq_true h2, of_decide_eq_true h3, of_decide_eq_true h4, of_decide_eq_true h5, of_decide_eq_true h6⟩
/-- of these classes each is of none but itself -/
def apartB (K : PySem.W.Frag) (cs : List Addr) : Bool := (List.range cs.length).all fun i => (List.range cs.length).all fun j => decide (PySem.W.kitOne K (.ref (cs.getD i 0)) (.ref (cs.getD j 0)) = some (decide (i = j)))
theorem apartB_ok {K : PySem.W.Frag} {cs : List Addr} (h : apartB K cs = true) {i j : Nat} (hi : i < cs.length) (hj : j < cs.length) : PySem.W.kitOne K (.ref (cs.getD i 0)) (.ref (cs.getD j 0)) = some (decide (i = j)) := by
  unfold apartB at h
  exact of_decide_eq_true (List.all_eq_true.mp (List.all_eq_true.mp h i (List.mem_range.mpr hi)) j (List.mem_range.mpr hj))
/-- an exception with its values has been made -/
theorem made_x {H H2 : Hp} {x dx C : Addr} {fs : List (Str × V)} (nx : H x = none) (ndx : (upd H x (exo x C none)) dx = none) (ne : dx ≠ x) (e : upd (upd (upd H x (exo x C none)) dx (exd dx fs)) x (exo x C (some dx)) = H2) :
    Same H H2 ∧ H2 x = some (exo x C (some dx)) ∧ H2 dx = some (exd dx fs) := by
  subst e
  refine ⟨fun b o hb => ?_, upd_same, (upd_ne ne).trans upd_same⟩
  have b1 : b ≠ x := ne_of_none hb nx
  have b2 : b ≠ dx := fun z => by
    rw [upd_ne ne] at ndx
    rw [z, ndx] at hb
    cases hb
  rw [upd_ne b1, upd_ne b2, upd_ne b1]
  exact hb
end SG

set_option maxHeartbeats 0
/-! the run of the top, looked at part by part -/
namespace SG
open PySem PySem.Spec PyProof.Rows L2
def topH (i : Nat) : Stmt := PySem.Challenge.pw_serialhouse_k00_words.main.body.getD i (.Pass ⟨0, 0, 0, 0⟩)
def inH (s : Stmt) (j : Nat) : Stmt := match s with
  | .ClassDef _ _ _ b .. => b.getD j (.Pass ⟨0, 0, 0, 0⟩)
  | _ => .Pass ⟨0, 0, 0, 0⟩
abbrev h_BadFormat___init__ : Stmt := (inH (topH 6) 0)
abbrev h_BadSheet___init__ : Stmt := (inH (topH 7) 0)
abbrev h_BadText___init__ : Stmt := (inH (topH 8) 0)
abbrev h_BadLetters___init__ : Stmt := (inH (topH 9) 0)
abbrev h_NotIn___init__ : Stmt := (inH (topH 10) 0)
abbrev h_TooLong___init__ : Stmt := (inH (topH 11) 0)
abbrev h_UnlikeRows___init__ : Stmt := (inH (topH 12) 0)
abbrev h_NoWords___init__ : Stmt := (inH (topH 13) 0)
abbrev h_Endless___init__ : Stmt := (inH (topH 14) 0)
abbrev h_Uneven___init__ : Stmt := (inH (topH 15) 0)
abbrev h_BadCode___init__ : Stmt := (inH (topH 16) 0)
abbrev h_TwoWays___init__ : Stmt := (inH (topH 17) 0)
abbrev h_NoMessage___init__ : Stmt := (inH (topH 18) 0)
abbrev h_HasBeginnings___init__ : Stmt := (inH (topH 19) 0)
abbrev h_TooMuch___init__ : Stmt := (inH (topH 20) 0)
abbrev h_BadLot___init__ : Stmt := (inH (topH 21) 0)
abbrev h_TooFar___init__ : Stmt := (inH (topH 22) 0)
abbrev h_TooMany___init__ : Stmt := (inH (topH 23) 0)
abbrev h_Doubles___init__ : Stmt := (inH (topH 24) 0)
abbrev h_NotThin___init__ : Stmt := (inH (topH 25) 0)
abbrev h_BadName___init__ : Stmt := (inH (topH 26) 0)
abbrev h_NameTaken___init__ : Stmt := (inH (topH 27) 0)
abbrev h_NoBook___init__ : Stmt := (inH (topH 28) 0)
abbrev h_NoName___init__ : Stmt := (inH (topH 29) 0)
abbrev h_NoWordLeft___init__ : Stmt := (inH (topH 30) 0)
abbrev h_IssuedBefore___init__ : Stmt := (inH (topH 31) 0)
abbrev h_NotDrawn___init__ : Stmt := (inH (topH 32) 0)
abbrev h_NotInForce___init__ : Stmt := (inH (topH 33) 0)
abbrev h_BadSign___init__ : Stmt := (inH (topH 34) 0)
abbrev h_StillInForce___init__ : Stmt := (inH (topH 35) 0)
abbrev h_BadDeed___init__ : Stmt := (inH (topH 36) 0)
abbrev h_is_word : Stmt := (topH 1)
abbrev h_is_ahead : Stmt := (topH 2)
abbrev h_common_beginning : Stmt := (topH 3)
abbrev h__law_deck : Stmt := (topH 40)
abbrev h__law_draw : Stmt := (topH 41)
abbrev h__law_pick : Stmt := (topH 42)
abbrev h__law_word : Stmt := (topH 43)
abbrev h__law_common : Stmt := (topH 44)
abbrev h__law_two_right : Stmt := (topH 45)
abbrev h__law_errors_one : Stmt := (topH 46)
abbrev h__law_errors_two : Stmt := (topH 47)
abbrev h__law_errors_three : Stmt := (topH 48)
abbrev h__law_kinds : Stmt := (topH 49)
abbrev h__law_is_alone : Stmt := (topH 50)
abbrev h__law_errors_right : Stmt := (topH 51)
abbrev h__law_is_caught : Stmt := (topH 52)
abbrev h_law : Stmt := (topH 53)
def ex0 (K : PySem.W.Frag) : List Bool := [decide (PySem.W.nsIn K mainGlobals "BadFormat" = some (some (.ref (He.ga K "BadFormat")))), decide (PySem.W.nsIn K mainGlobals "BadSheet" = some (some (.ref (He.ga K "BadSheet")))), decide (PySem.W.nsIn K mainGlobals "BadText" = some (some (.ref (He.ga K "BadText")))), decide (PySem.W.nsIn K mainGlobals "BadLetters" = some (some (.ref (He.ga K "BadLetters")))), decide (PySem.W.nsIn K mainGlobals "NotIn" = some (some (.ref (He.ga K "NotIn")))), decide (PySem.W.nsIn K mainGlobals "TooLong" = some (some (.ref (He.ga K "TooLong")))), decide (PySem.W.nsIn K mainGlobals "UnlikeRows" = some (some (.ref (He.ga K "UnlikeRows")))), decide (PySem.W.nsIn K mainGlobals "NoWords" = some (some (.ref (He.ga K "NoWords")))), decide (PySem.W.nsIn K mainGlobals "Endless" = some (some (.ref (He.ga K "Endless")))), decide (PySem.W.nsIn K mainGlobals "Uneven" = some (some (.ref (He.ga K "Uneven")))), decide (PySem.W.nsIn K mainGlobals "BadCode" = some (some (.ref (He.ga K "BadCode")))), decide (PySem.W.nsIn K mainGlobals "TwoWays" = some (some (.ref (He.ga K "TwoWays")))), decide (PySem.W.nsIn K mainGlobals "NoMessage" = some (some (.ref (He.ga K "NoMessage")))), decide (PySem.W.nsIn K mainGlobals "TooMuch" = some (some (.ref (He.ga K "TooMuch")))), decide (PySem.W.nsIn K mainGlobals "BadLot" = some (some (.ref (He.ga K "BadLot")))), decide (PySem.W.nsIn K mainGlobals "TooFar" = some (some (.ref (He.ga K "TooFar")))), decide (PySem.W.nsIn K mainGlobals "TooMany" = some (some (.ref (He.ga K "TooMany")))), decide (PySem.W.nsIn K mainGlobals "Doubles" = some (some (.ref (He.ga K "Doubles")))), decide (PySem.W.nsIn K mainGlobals "NotThin" = some (some (.ref (He.ga K "NotThin")))), decide (PySem.W.nsIn K mainGlobals "BadName" = some (some (.ref (He.ga K "BadName")))), decide (PySem.W.nsIn K mainGlobals "NameTaken" = some (some (.ref (He.ga K "NameTaken")))), decide (PySem.W.nsIn K mainGlobals "NoBook" = some (some (.ref (He.ga K "NoBook")))), decide (PySem.W.nsIn K mainGlobals "NoName" = some (some (.ref (He.ga K "NoName")))), decide (PySem.W.nsIn K mainGlobals "NoWordLeft" = some (some (.ref (He.ga K "NoWordLeft")))), decide (PySem.W.nsIn K mainGlobals "IssuedBefore" = some (some (.ref (He.ga K "IssuedBefore"))))]
def ex1 (K : PySem.W.Frag) : List Bool := [decide (PySem.W.nsIn K mainGlobals "NotDrawn" = some (some (.ref (He.ga K "NotDrawn")))), decide (PySem.W.nsIn K mainGlobals "NotInForce" = some (some (.ref (He.ga K "NotInForce")))), decide (PySem.W.nsIn K mainGlobals "BadSign" = some (some (.ref (He.ga K "BadSign")))), decide (PySem.W.nsIn K mainGlobals "StillInForce" = some (some (.ref (He.ga K "StillInForce")))), decide (PySem.W.nsIn K mainGlobals "BadDeed" = some (some (.ref (He.ga K "BadDeed")))), decide (PySem.W.nsIn K mainGlobals "HasBeginnings" = some (some (.ref (He.ga K "HasBeginnings")))), decide (PySem.W.nsIn K mainGlobals "NothingToUndo" = some (some (.ref (He.ga K "NothingToUndo")))), decide (PySem.W.nsIn K mainGlobals "InvalidCommand" = some (some (.ref (He.ga K "InvalidCommand")))), decide (PySem.W.nsIn K mainGlobals "SerialError" = some (some (.ref (He.ga K "SerialError")))), xcB K (He.ga K "BadFormat"), xcB K (He.ga K "BadSheet"), xcB K (He.ga K "BadText"), xcB K (He.ga K "BadLetters"), xcB K (He.ga K "NotIn"), xcB K (He.ga K "TooLong"), xcB K (He.ga K "UnlikeRows"), xcB K (He.ga K "NoWords"), xcB K (He.ga K "Endless"), xcB K (He.ga K "Uneven"), xcB K (He.ga K "BadCode"), xcB K (He.ga K "TwoWays"), xcB K (He.ga K "NoMessage"), xcB K (He.ga K "TooMuch"), xcB K (He.ga K "BadLot"), xcB K (He.ga K "TooFar")]
def ex2 (K : PySem.W.Frag) : List Bool := [xcB K (He.ga K "TooMany"), xcB K (He.ga K "Doubles"), xcB K (He.ga K "NotThin"), xcB K (He.ga K "BadName"), xcB K (He.ga K "NameTaken"), xcB K (He.ga K "NoBook"), xcB K (He.ga K "NoName"), xcB K (He.ga K "NoWordLeft"), xcB K (He.ga K "IssuedBefore"), xcB K (He.ga K "NotDrawn"), xcB K (He.ga K "NotInForce"), xcB K (He.ga K "BadSign"), xcB K (He.ga K "StillInForce"), xcB K (He.ga K "BadDeed"), xcB K (He.ga K "HasBeginnings"), xcB K (He.ga K "NothingToUndo"), xcB K (He.ga K "InvalidCommand"), ownB K (He.ga K "SerialError") (He.ga K "BadFormat"), ownB K (He.ga K "SerialError") (He.ga K "BadSheet"), ownB K (He.ga K "SerialError") (He.ga K "BadText"), ownB K (He.ga K "SerialError") (He.ga K "BadLetters"), ownB K (He.ga K "SerialError") (He.ga K "NotIn"), ownB K (He.ga K "SerialError") (He.ga K "TooLong"), ownB K (He.ga K "SerialError") (He.ga K "UnlikeRows"), ownB K (He.ga K "SerialError") (He.ga K "NoWords")]
def ex3 (K : PySem.W.Frag) : List Bool := [ownB K (He.ga K "SerialError") (He.ga K "Endless"), ownB K (He.ga K "SerialError") (He.ga K "Uneven"), ownB K (He.ga K "SerialError") (He.ga K "BadCode"), ownB K (He.ga K "SerialError") (He.ga K "TwoWays"), ownB K (He.ga K "SerialError") (He.ga K "NoMessage"), ownB K (He.ga K "SerialError") (He.ga K "TooMuch"), ownB K (He.ga K "SerialError") (He.ga K "BadLot"), ownB K (He.ga K "SerialError") (He.ga K "TooFar"), ownB K (He.ga K "SerialError") (He.ga K "TooMany"), ownB K (He.ga K "SerialError") (He.ga K "Doubles"), ownB K (He.ga K "SerialError") (He.ga K "NotThin"), ownB K (He.ga K "SerialError") (He.ga K "BadName"), ownB K (He.ga K "SerialError") (He.ga K "NameTaken"), ownB K (He.ga K "SerialError") (He.ga K "NoBook"), ownB K (He.ga K "SerialError") (He.ga K "NoName"), ownB K (He.ga K "SerialError") (He.ga K "NoWordLeft"), ownB K (He.ga K "SerialError") (He.ga K "IssuedBefore"), ownB K (He.ga K "SerialError") (He.ga K "NotDrawn"), ownB K (He.ga K "SerialError") (He.ga K "NotInForce"), ownB K (He.ga K "SerialError") (He.ga K "BadSign"), ownB K (He.ga K "SerialError") (He.ga K "StillInForce"), ownB K (He.ga K "SerialError") (He.ga K "BadDeed"), ownB K (He.ga K "SerialError") (He.ga K "HasBeginnings"), decide (PySem.W.findIn K (.ref (He.ga K "BadFormat")) "part" = some none), decide (PySem.W.findIn K (.ref (He.ga K "BadSheet")) "part" = some none)]
def ex4 (K : PySem.W.Frag) : List Bool := [decide (PySem.W.findIn K (.ref (He.ga K "BadText")) "place" = some none), decide (PySem.W.findIn K (.ref (He.ga K "BadLetters")) "pairs" = some none), decide (PySem.W.findIn K (.ref (He.ga K "NotIn")) "word" = some none), decide (PySem.W.findIn K (.ref (He.ga K "TooLong")) "most" = some none), decide (PySem.W.findIn K (.ref (He.ga K "UnlikeRows")) "length" = some none), decide (PySem.W.findIn K (.ref (He.ga K "NoWords")) "length" = some none), decide (PySem.W.findIn K (.ref (He.ga K "Endless")) "paper" = some none), decide (PySem.W.findIn K (.ref (He.ga K "Uneven")) "shares" = some none), decide (PySem.W.findIn K (.ref (He.ga K "BadCode")) "part" = some none), decide (PySem.W.findIn K (.ref (He.ga K "TwoWays")) "paper" = some none), decide (PySem.W.findIn K (.ref (He.ga K "NoMessage")) "place" = some none), decide (PySem.W.findIn K (.ref (He.ga K "TooMuch")) "share" = some none), decide (PySem.W.findIn K (.ref (He.ga K "BadLot")) "part" = some none), decide (PySem.W.findIn K (.ref (He.ga K "TooFar")) "most" = some none), decide (PySem.W.findIn K (.ref (He.ga K "TooMany")) "most" = some none), decide (PySem.W.findIn K (.ref (He.ga K "Doubles")) "paper" = some none), decide (PySem.W.findIn K (.ref (He.ga K "NotThin")) "paper" = some none), decide (PySem.W.findIn K (.ref (He.ga K "BadName")) "name" = some none), decide (PySem.W.findIn K (.ref (He.ga K "NameTaken")) "name" = some none), decide (PySem.W.findIn K (.ref (He.ga K "NoBook")) "name" = some none), decide (PySem.W.findIn K (.ref (He.ga K "NoName")) "name" = some none), decide (PySem.W.findIn K (.ref (He.ga K "NoWordLeft")) "name" = some none), decide (PySem.W.findIn K (.ref (He.ga K "IssuedBefore")) "word" = some none), decide (PySem.W.findIn K (.ref (He.ga K "NotDrawn")) "tosses" = some none), decide (PySem.W.findIn K (.ref (He.ga K "NotInForce")) "word" = some none)]
def ex5 (K : PySem.W.Frag) : List Bool := [decide (PySem.W.findIn K (.ref (He.ga K "BadSign")) "sign" = some none), decide (PySem.W.findIn K (.ref (He.ga K "StillInForce")) "word" = some none), decide (PySem.W.findIn K (.ref (He.ga K "BadDeed")) "number" = some none), decide (PySem.W.findIn K (.ref (He.ga K "HasBeginnings")) "one" = some none), decide (PySem.W.findIn K (.ref (He.ga K "HasBeginnings")) "other" = some none), PySem.W.excIn K (He.ga K "NothingToUndo") [.type "Exception", .type "BaseException", .type "object"] "Exception.__new__", PySem.W.keepIn K (.ref (He.ga K "NothingToUndo")), PySem.W.excIn K (He.ga K "InvalidCommand") [.type "Exception", .type "BaseException", .type "object"] "Exception.__new__", PySem.W.keepIn K (.ref (He.ga K "InvalidCommand")), kitsB K (He.ga K "SerialError") (He.ga K "BadFormat"), kitsB K (He.ga K "SerialError") (He.ga K "BadSheet"), kitsB K (He.ga K "SerialError") (He.ga K "BadText"), kitsB K (He.ga K "SerialError") (He.ga K "BadLetters"), kitsB K (He.ga K "SerialError") (He.ga K "NotIn"), kitsB K (He.ga K "SerialError") (He.ga K "TooLong"), kitsB K (He.ga K "SerialError") (He.ga K "UnlikeRows"), kitsB K (He.ga K "SerialError") (He.ga K "NoWords"), kitsB K (He.ga K "SerialError") (He.ga K "Endless"), kitsB K (He.ga K "SerialError") (He.ga K "Uneven"), kitsB K (He.ga K "SerialError") (He.ga K "BadCode"), kitsB K (He.ga K "SerialError") (He.ga K "TwoWays"), kitsB K (He.ga K "SerialError") (He.ga K "NoMessage"), kitsB K (He.ga K "SerialError") (He.ga K "TooMuch"), kitsB K (He.ga K "SerialError") (He.ga K "BadLot"), kitsB K (He.ga K "SerialError") (He.ga K "TooFar")]
def ex6 (K : PySem.W.Frag) : List Bool := [kitsB K (He.ga K "SerialError") (He.ga K "TooMany"), kitsB K (He.ga K "SerialError") (He.ga K "Doubles"), kitsB K (He.ga K "SerialError") (He.ga K "NotThin"), kitsB K (He.ga K "SerialError") (He.ga K "BadName"), kitsB K (He.ga K "SerialError") (He.ga K "NameTaken"), kitsB K (He.ga K "SerialError") (He.ga K "NoBook"), kitsB K (He.ga K "SerialError") (He.ga K "NoName"), kitsB K (He.ga K "SerialError") (He.ga K "NoWordLeft"), kitsB K (He.ga K "SerialError") (He.ga K "IssuedBefore"), kitsB K (He.ga K "SerialError") (He.ga K "NotDrawn"), kitsB K (He.ga K "SerialError") (He.ga K "NotInForce"), kitsB K (He.ga K "SerialError") (He.ga K "BadSign"), kitsB K (He.ga K "SerialError") (He.ga K "StillInForce"), kitsB K (He.ga K "SerialError") (He.ga K "BadDeed"), kitsB K (He.ga K "SerialError") (He.ga K "HasBeginnings"), kitsB K (He.ga K "SerialError") (He.ga K "NothingToUndo"), kitsB K (He.ga K "SerialError") (He.ga K "InvalidCommand"), apartB K [(He.ga K "BadFormat"), (He.ga K "BadSheet"), (He.ga K "BadText"), (He.ga K "BadLetters"), (He.ga K "NotIn"), (He.ga K "TooLong"), (He.ga K "UnlikeRows"), (He.ga K "NoWords"), (He.ga K "Endless"), (He.ga K "Uneven"), (He.ga K "BadCode"), (He.ga K "TwoWays"), (He.ga K "NoMessage"), (He.ga K "TooMuch"), (He.ga K "BadLot"), (He.ga K "TooFar"), (He.ga K "TooMany"), (He.ga K "Doubles"), (He.ga K "NotThin"), (He.ga K "BadName"), (He.ga K "NameTaken"), (He.ga K "NoBook"), (He.ga K "NoName"), (He.ga K "NoWordLeft"), (He.ga K "IssuedBefore"), (He.ga K "NotDrawn"), (He.ga K "NotInForce"), (He.ga K "BadSign"), (He.ga K "StillInForce"), (He.ga K "BadDeed"), (He.ga K "HasBeginnings"), (He.ga K "NothingToUndo"), (He.ga K "InvalidCommand")], decide (PySem.W.exmOne K (.ref (He.ga K "NotInForce")) (.ref (He.ga K "StillInForce")) = some false), decide (PySem.W.exmOne K (.ref (He.ga K "NotInForce")) (.ref (He.ga K "SerialError")) = some true), decide (PySem.W.findIn K (.ref (He.ga K "BadFormat")) "__init__" = some (some (.ref (He.ma K (He.ga K "BadFormat") "__init__")))), PySem.W.isFn K (.ref (He.ma K (He.ga K "BadFormat") "__init__")), decide (PySem.W.findIn K (.ref (He.ga K "BadSheet")) "__init__" = some (some (.ref (He.ma K (He.ga K "BadSheet") "__init__")))), PySem.W.isFn K (.ref (He.ma K (He.ga K "BadSheet") "__init__")), decide (PySem.W.findIn K (.ref (He.ga K "BadText")) "__init__" = some (some (.ref (He.ma K (He.ga K "BadText") "__init__"))))]
def ex7 (K : PySem.W.Frag) : List Bool := [PySem.W.isFn K (.ref (He.ma K (He.ga K "BadText") "__init__")), decide (PySem.W.findIn K (.ref (He.ga K "BadLetters")) "__init__" = some (some (.ref (He.ma K (He.ga K "BadLetters") "__init__")))), PySem.W.isFn K (.ref (He.ma K (He.ga K "BadLetters") "__init__")), decide (PySem.W.findIn K (.ref (He.ga K "NotIn")) "__init__" = some (some (.ref (He.ma K (He.ga K "NotIn") "__init__")))), PySem.W.isFn K (.ref (He.ma K (He.ga K "NotIn") "__init__")), decide (PySem.W.findIn K (.ref (He.ga K "TooLong")) "__init__" = some (some (.ref (He.ma K (He.ga K "TooLong") "__init__")))), PySem.W.isFn K (.ref (He.ma K (He.ga K "TooLong") "__init__")), decide (PySem.W.findIn K (.ref (He.ga K "UnlikeRows")) "__init__" = some (some (.ref (He.ma K (He.ga K "UnlikeRows") "__init__")))), PySem.W.isFn K (.ref (He.ma K (He.ga K "UnlikeRows") "__init__")), decide (PySem.W.findIn K (.ref (He.ga K "NoWords")) "__init__" = some (some (.ref (He.ma K (He.ga K "NoWords") "__init__")))), PySem.W.isFn K (.ref (He.ma K (He.ga K "NoWords") "__init__")), decide (PySem.W.findIn K (.ref (He.ga K "Endless")) "__init__" = some (some (.ref (He.ma K (He.ga K "Endless") "__init__")))), PySem.W.isFn K (.ref (He.ma K (He.ga K "Endless") "__init__")), decide (PySem.W.findIn K (.ref (He.ga K "Uneven")) "__init__" = some (some (.ref (He.ma K (He.ga K "Uneven") "__init__")))), PySem.W.isFn K (.ref (He.ma K (He.ga K "Uneven") "__init__")), decide (PySem.W.findIn K (.ref (He.ga K "BadCode")) "__init__" = some (some (.ref (He.ma K (He.ga K "BadCode") "__init__")))), PySem.W.isFn K (.ref (He.ma K (He.ga K "BadCode") "__init__")), decide (PySem.W.findIn K (.ref (He.ga K "TwoWays")) "__init__" = some (some (.ref (He.ma K (He.ga K "TwoWays") "__init__")))), PySem.W.isFn K (.ref (He.ma K (He.ga K "TwoWays") "__init__")), decide (PySem.W.findIn K (.ref (He.ga K "NoMessage")) "__init__" = some (some (.ref (He.ma K (He.ga K "NoMessage") "__init__")))), PySem.W.isFn K (.ref (He.ma K (He.ga K "NoMessage") "__init__")), decide (PySem.W.findIn K (.ref (He.ga K "HasBeginnings")) "__init__" = some (some (.ref (He.ma K (He.ga K "HasBeginnings") "__init__")))), PySem.W.isFn K (.ref (He.ma K (He.ga K "HasBeginnings") "__init__")), decide (PySem.W.findIn K (.ref (He.ga K "TooMuch")) "__init__" = some (some (.ref (He.ma K (He.ga K "TooMuch") "__init__")))), PySem.W.isFn K (.ref (He.ma K (He.ga K "TooMuch") "__init__"))]
def ex8 (K : PySem.W.Frag) : List Bool := [decide (PySem.W.findIn K (.ref (He.ga K "BadLot")) "__init__" = some (some (.ref (He.ma K (He.ga K "BadLot") "__init__")))), PySem.W.isFn K (.ref (He.ma K (He.ga K "BadLot") "__init__")), decide (PySem.W.findIn K (.ref (He.ga K "TooFar")) "__init__" = some (some (.ref (He.ma K (He.ga K "TooFar") "__init__")))), PySem.W.isFn K (.ref (He.ma K (He.ga K "TooFar") "__init__")), decide (PySem.W.findIn K (.ref (He.ga K "TooMany")) "__init__" = some (some (.ref (He.ma K (He.ga K "TooMany") "__init__")))), PySem.W.isFn K (.ref (He.ma K (He.ga K "TooMany") "__init__")), decide (PySem.W.findIn K (.ref (He.ga K "Doubles")) "__init__" = some (some (.ref (He.ma K (He.ga K "Doubles") "__init__")))), PySem.W.isFn K (.ref (He.ma K (He.ga K "Doubles") "__init__")), decide (PySem.W.findIn K (.ref (He.ga K "NotThin")) "__init__" = some (some (.ref (He.ma K (He.ga K "NotThin") "__init__")))), PySem.W.isFn K (.ref (He.ma K (He.ga K "NotThin") "__init__")), decide (PySem.W.findIn K (.ref (He.ga K "BadName")) "__init__" = some (some (.ref (He.ma K (He.ga K "BadName") "__init__")))), PySem.W.isFn K (.ref (He.ma K (He.ga K "BadName") "__init__")), decide (PySem.W.findIn K (.ref (He.ga K "NameTaken")) "__init__" = some (some (.ref (He.ma K (He.ga K "NameTaken") "__init__")))), PySem.W.isFn K (.ref (He.ma K (He.ga K "NameTaken") "__init__")), decide (PySem.W.findIn K (.ref (He.ga K "NoBook")) "__init__" = some (some (.ref (He.ma K (He.ga K "NoBook") "__init__")))), PySem.W.isFn K (.ref (He.ma K (He.ga K "NoBook") "__init__")), decide (PySem.W.findIn K (.ref (He.ga K "NoName")) "__init__" = some (some (.ref (He.ma K (He.ga K "NoName") "__init__")))), PySem.W.isFn K (.ref (He.ma K (He.ga K "NoName") "__init__")), decide (PySem.W.findIn K (.ref (He.ga K "NoWordLeft")) "__init__" = some (some (.ref (He.ma K (He.ga K "NoWordLeft") "__init__")))), PySem.W.isFn K (.ref (He.ma K (He.ga K "NoWordLeft") "__init__")), decide (PySem.W.findIn K (.ref (He.ga K "IssuedBefore")) "__init__" = some (some (.ref (He.ma K (He.ga K "IssuedBefore") "__init__")))), PySem.W.isFn K (.ref (He.ma K (He.ga K "IssuedBefore") "__init__")), decide (PySem.W.findIn K (.ref (He.ga K "NotDrawn")) "__init__" = some (some (.ref (He.ma K (He.ga K "NotDrawn") "__init__")))), PySem.W.isFn K (.ref (He.ma K (He.ga K "NotDrawn") "__init__")), decide (PySem.W.findIn K (.ref (He.ga K "NotInForce")) "__init__" = some (some (.ref (He.ma K (He.ga K "NotInForce") "__init__"))))]
def ex9 (K : PySem.W.Frag) : List Bool := [PySem.W.isFn K (.ref (He.ma K (He.ga K "NotInForce") "__init__")), decide (PySem.W.findIn K (.ref (He.ga K "BadSign")) "__init__" = some (some (.ref (He.ma K (He.ga K "BadSign") "__init__")))), PySem.W.isFn K (.ref (He.ma K (He.ga K "BadSign") "__init__")), decide (PySem.W.findIn K (.ref (He.ga K "StillInForce")) "__init__" = some (some (.ref (He.ma K (He.ga K "StillInForce") "__init__")))), PySem.W.isFn K (.ref (He.ma K (He.ga K "StillInForce") "__init__")), decide (PySem.W.findIn K (.ref (He.ga K "BadDeed")) "__init__" = some (some (.ref (He.ma K (He.ga K "BadDeed") "__init__")))), PySem.W.isFn K (.ref (He.ma K (He.ga K "BadDeed") "__init__")), decide (PySem.W.nsIn K mainGlobals "is_word" = some (some (.ref (He.ga K "is_word")))), decide (PySem.W.nsIn K mainGlobals "is_ahead" = some (some (.ref (He.ga K "is_ahead")))), decide (PySem.W.nsIn K mainGlobals "common_beginning" = some (some (.ref (He.ga K "common_beginning")))), decide (PySem.W.nsIn K mainGlobals "_law_deck" = some (some (.ref (He.ga K "_law_deck")))), decide (PySem.W.nsIn K mainGlobals "_law_draw" = some (some (.ref (He.ga K "_law_draw")))), decide (PySem.W.nsIn K mainGlobals "_law_pick" = some (some (.ref (He.ga K "_law_pick")))), decide (PySem.W.nsIn K mainGlobals "_law_word" = some (some (.ref (He.ga K "_law_word")))), decide (PySem.W.nsIn K mainGlobals "_law_common" = some (some (.ref (He.ga K "_law_common")))), decide (PySem.W.nsIn K mainGlobals "_law_two_right" = some (some (.ref (He.ga K "_law_two_right")))), decide (PySem.W.nsIn K mainGlobals "_law_errors_one" = some (some (.ref (He.ga K "_law_errors_one")))), decide (PySem.W.nsIn K mainGlobals "_law_errors_two" = some (some (.ref (He.ga K "_law_errors_two")))), decide (PySem.W.nsIn K mainGlobals "_law_errors_three" = some (some (.ref (He.ga K "_law_errors_three")))), decide (PySem.W.nsIn K mainGlobals "_law_kinds" = some (some (.ref (He.ga K "_law_kinds")))), decide (PySem.W.nsIn K mainGlobals "_law_is_alone" = some (some (.ref (He.ga K "_law_is_alone")))), decide (PySem.W.nsIn K mainGlobals "_law_errors_right" = some (some (.ref (He.ga K "_law_errors_right")))), decide (PySem.W.nsIn K mainGlobals "_law_is_caught" = some (some (.ref (He.ga K "_law_is_caught")))), decide (PySem.W.nsIn K mainGlobals "law" = some (some (.ref (He.ga K "law")))), decide (PySem.W.nsIn K mainGlobals "all" = some none)]
def ex10 (K : PySem.W.Frag) : List Bool := [decide (PySem.W.nsIn K mainGlobals "bool" = some none), decide (PySem.W.nsIn K mainGlobals "dict" = some none), decide (PySem.W.nsIn K mainGlobals "enumerate" = some none), decide (PySem.W.nsIn K mainGlobals "int" = some none), decide (PySem.W.nsIn K mainGlobals "isinstance" = some none), decide (PySem.W.nsIn K mainGlobals "len" = some none), decide (PySem.W.nsIn K mainGlobals "list" = some none), decide (PySem.W.nsIn K mainGlobals "min" = some none), decide (PySem.W.nsIn K mainGlobals "range" = some none), decide (PySem.W.nsIn K mainGlobals "repr" = some none), decide (PySem.W.nsIn K mainGlobals "str" = some none), decide (PySem.W.nsIn K mainGlobals "tuple" = some none), decide (PySem.W.nsIn K mainGlobals "zip" = some none), decide (PySem.W.nsIn K mainGlobals "ValueError" = some none), decide (PySem.W.nsIn K mainGlobals "LookupError" = some none), decide (PySem.W.nsIn K mainGlobals "ArithmeticError" = some none), decide (PySem.W.nsIn K mainGlobals "Exception" = some none), decide (PySem.W.nsIn K mainGlobals "TypeError" = some none)]
def exAll (K : PySem.W.Frag) : Bool := (ex0 K).all id && ((ex1 K).all id && ((ex2 K).all id && ((ex3 K).all id && ((ex4 K).all id && ((ex5 K).all id && ((ex6 K).all id && ((ex7 K).all id && ((ex8 K).all id && ((ex9 K).all id && ((ex10 K).all id))))))))))
def fn0 : List He.DefD := [⟨("BadFormat", some "__init__"), "__init__", "BadFormat.__init__", defArgs h_BadFormat___init__, defBody h_BadFormat___init__, defScope h_BadFormat___init__, [], []⟩, ⟨("BadSheet", some "__init__"), "__init__", "BadSheet.__init__", defArgs h_BadSheet___init__, defBody h_BadSheet___init__, defScope h_BadSheet___init__, [], []⟩, ⟨("BadText", some "__init__"), "__init__", "BadText.__init__", defArgs h_BadText___init__, defBody h_BadText___init__, defScope h_BadText___init__, [], []⟩, ⟨("BadLetters", some "__init__"), "__init__", "BadLetters.__init__", defArgs h_BadLetters___init__, defBody h_BadLetters___init__, defScope h_BadLetters___init__, [], []⟩, ⟨("NotIn", some "__init__"), "__init__", "NotIn.__init__", defArgs h_NotIn___init__, defBody h_NotIn___init__, defScope h_NotIn___init__, [], []⟩, ⟨("TooLong", some "__init__"), "__init__", "TooLong.__init__", defArgs h_TooLong___init__, defBody h_TooLong___init__, defScope h_TooLong___init__, [], []⟩, ⟨("UnlikeRows", some "__init__"), "__init__", "UnlikeRows.__init__", defArgs h_UnlikeRows___init__, defBody h_UnlikeRows___init__, defScope h_UnlikeRows___init__, [], []⟩, ⟨("NoWords", some "__init__"), "__init__", "NoWords.__init__", defArgs h_NoWords___init__, defBody h_NoWords___init__, defScope h_NoWords___init__, [], []⟩, ⟨("Endless", some "__init__"), "__init__", "Endless.__init__", defArgs h_Endless___init__, defBody h_Endless___init__, defScope h_Endless___init__, [], []⟩, ⟨("Uneven", some "__init__"), "__init__", "Uneven.__init__", defArgs h_Uneven___init__, defBody h_Uneven___init__, defScope h_Uneven___init__, [], []⟩, ⟨("BadCode", some "__init__"), "__init__", "BadCode.__init__", defArgs h_BadCode___init__, defBody h_BadCode___init__, defScope h_BadCode___init__, [], []⟩, ⟨("TwoWays", some "__init__"), "__init__", "TwoWays.__init__", defArgs h_TwoWays___init__, defBody h_TwoWays___init__, defScope h_TwoWays___init__, [], []⟩, ⟨("NoMessage", some "__init__"), "__init__", "NoMessage.__init__", defArgs h_NoMessage___init__, defBody h_NoMessage___init__, defScope h_NoMessage___init__, [], []⟩, ⟨("HasBeginnings", some "__init__"), "__init__", "HasBeginnings.__init__", defArgs h_HasBeginnings___init__, defBody h_HasBeginnings___init__, defScope h_HasBeginnings___init__, [], []⟩, ⟨("TooMuch", some "__init__"), "__init__", "TooMuch.__init__", defArgs h_TooMuch___init__, defBody h_TooMuch___init__, defScope h_TooMuch___init__, [], []⟩, ⟨("BadLot", some "__init__"), "__init__", "BadLot.__init__", defArgs h_BadLot___init__, defBody h_BadLot___init__, defScope h_BadLot___init__, [], []⟩, ⟨("TooFar", some "__init__"), "__init__", "TooFar.__init__", defArgs h_TooFar___init__, defBody h_TooFar___init__, defScope h_TooFar___init__, [], []⟩, ⟨("TooMany", some "__init__"), "__init__", "TooMany.__init__", defArgs h_TooMany___init__, defBody h_TooMany___init__, defScope h_TooMany___init__, [], []⟩, ⟨("Doubles", some "__init__"), "__init__", "Doubles.__init__", defArgs h_Doubles___init__, defBody h_Doubles___init__, defScope h_Doubles___init__, [], []⟩, ⟨("NotThin", some "__init__"), "__init__", "NotThin.__init__", defArgs h_NotThin___init__, defBody h_NotThin___init__, defScope h_NotThin___init__, [], []⟩, ⟨("BadName", some "__init__"), "__init__", "BadName.__init__", defArgs h_BadName___init__, defBody h_BadName___init__, defScope h_BadName___init__, [], []⟩, ⟨("NameTaken", some "__init__"), "__init__", "NameTaken.__init__", defArgs h_NameTaken___init__, defBody h_NameTaken___init__, defScope h_NameTaken___init__, [], []⟩, ⟨("NoBook", some "__init__"), "__init__", "NoBook.__init__", defArgs h_NoBook___init__, defBody h_NoBook___init__, defScope h_NoBook___init__, [], []⟩, ⟨("NoName", some "__init__"), "__init__", "NoName.__init__", defArgs h_NoName___init__, defBody h_NoName___init__, defScope h_NoName___init__, [], []⟩, ⟨("NoWordLeft", some "__init__"), "__init__", "NoWordLeft.__init__", defArgs h_NoWordLeft___init__, defBody h_NoWordLeft___init__, defScope h_NoWordLeft___init__, [], []⟩]
def fn1 : List He.DefD := [⟨("IssuedBefore", some "__init__"), "__init__", "IssuedBefore.__init__", defArgs h_IssuedBefore___init__, defBody h_IssuedBefore___init__, defScope h_IssuedBefore___init__, [], []⟩, ⟨("NotDrawn", some "__init__"), "__init__", "NotDrawn.__init__", defArgs h_NotDrawn___init__, defBody h_NotDrawn___init__, defScope h_NotDrawn___init__, [], []⟩, ⟨("NotInForce", some "__init__"), "__init__", "NotInForce.__init__", defArgs h_NotInForce___init__, defBody h_NotInForce___init__, defScope h_NotInForce___init__, [], []⟩, ⟨("BadSign", some "__init__"), "__init__", "BadSign.__init__", defArgs h_BadSign___init__, defBody h_BadSign___init__, defScope h_BadSign___init__, [], []⟩, ⟨("StillInForce", some "__init__"), "__init__", "StillInForce.__init__", defArgs h_StillInForce___init__, defBody h_StillInForce___init__, defScope h_StillInForce___init__, [], []⟩, ⟨("BadDeed", some "__init__"), "__init__", "BadDeed.__init__", defArgs h_BadDeed___init__, defBody h_BadDeed___init__, defScope h_BadDeed___init__, [], []⟩, ⟨("is_word", none), "is_word", "is_word", defArgs h_is_word, defBody h_is_word, defScope h_is_word, [], []⟩, ⟨("is_ahead", none), "is_ahead", "is_ahead", defArgs h_is_ahead, defBody h_is_ahead, defScope h_is_ahead, [], []⟩, ⟨("common_beginning", none), "common_beginning", "common_beginning", defArgs h_common_beginning, defBody h_common_beginning, defScope h_common_beginning, [], []⟩, ⟨("_law_deck", none), "_law_deck", "_law_deck", defArgs h__law_deck, defBody h__law_deck, defScope h__law_deck, [], []⟩, ⟨("_law_draw", none), "_law_draw", "_law_draw", defArgs h__law_draw, defBody h__law_draw, defScope h__law_draw, [], []⟩, ⟨("_law_pick", none), "_law_pick", "_law_pick", defArgs h__law_pick, defBody h__law_pick, defScope h__law_pick, [], []⟩, ⟨("_law_word", none), "_law_word", "_law_word", defArgs h__law_word, defBody h__law_word, defScope h__law_word, [], []⟩, ⟨("_law_common", none), "_law_common", "_law_common", defArgs h__law_common, defBody h__law_common, defScope h__law_common, [], []⟩, ⟨("_law_two_right", none), "_law_two_right", "_law_two_right", defArgs h__law_two_right, defBody h__law_two_right, defScope h__law_two_right, [], []⟩, ⟨("_law_errors_one", none), "_law_errors_one", "_law_errors_one", defArgs h__law_errors_one, defBody h__law_errors_one, defScope h__law_errors_one, [], []⟩, ⟨("_law_errors_two", none), "_law_errors_two", "_law_errors_two", defArgs h__law_errors_two, defBody h__law_errors_two, defScope h__law_errors_two, [], []⟩, ⟨("_law_errors_three", none), "_law_errors_three", "_law_errors_three", defArgs h__law_errors_three, defBody h__law_errors_three, defScope h__law_errors_three, [], []⟩, ⟨("_law_kinds", none), "_law_kinds", "_law_kinds", defArgs h__law_kinds, defBody h__law_kinds, defScope h__law_kinds, [], []⟩, ⟨("_law_is_alone", none), "_law_is_alone", "_law_is_alone", defArgs h__law_is_alone, defBody h__law_is_alone, defScope h__law_is_alone, [], []⟩, ⟨("_law_errors_right", none), "_law_errors_right", "_law_errors_right", defArgs h__law_errors_right, defBody h__law_errors_right, defScope h__law_errors_right, [], []⟩, ⟨("_law_is_caught", none), "_law_is_caught", "_law_is_caught", defArgs h__law_is_caught, defBody h__law_is_caught, defScope h__law_is_caught, [], []⟩, ⟨("law", none), "law", "law", defArgs h_law, defBody h_law, defScope h_law, [], []⟩]
def fnAll : List He.DefD := fn0 ++ (fn1)
def as0 : List Addr := [3, 253, 252, 43, 42, 633, 632, 63, 62, 120, 119, 348, 347, 443, 442, 82, 81, 595, 594, 101, 100, 405, 404, 215, 214, 310, 309, 657, 656, 538, 537, 462, 461, 481, 480, 291, 290, 500, 499, 519]
def as1 : List Addr := [518, 196, 195, 557, 556, 139, 138, 576, 575, 424, 423, 645, 644, 614, 613, 367, 366, 158, 157, 386, 385, 329, 328, 272, 271, 234, 233, 177, 176, 60, 59, 79, 78, 98, 97, 117, 116, 136, 135, 155]
def as2 : List Addr := [154, 174, 173, 193, 192, 212, 211, 231, 230, 250, 249, 269, 268, 288, 287, 307, 306, 326, 325, 345, 344, 364, 363, 383, 382, 402, 401, 421, 420, 440, 439, 459, 458, 478, 477, 497, 496, 516, 515, 535]
def as3 : List Addr := [534, 554, 553, 573, 572, 592, 591, 611, 610, 630, 629, 19, 18, 26, 25, 33, 32, 666, 665, 673, 672, 680, 679, 685, 684, 692, 691, 699, 698, 706, 705, 713, 712, 720, 719, 727, 726, 732, 731, 737]
def as4 : List Addr := [736, 744, 743, 749, 748]
def asAll : List Addr := as0 ++ (as1 ++ (as2 ++ (as3 ++ (as4))))
def tsAll : List He.Defn := []
abbrev R : PySem.W.OpenRow := PySem.W.OpenLaw.row PySem.Challenge.rw_serialhouse_k00_words
abbrev qv : Program := PySem.W.view R.prog [1, 2, 3, 40, 41, 42, 43, 44, 45, 46, 47, 48, 49, 50, 51, 52, 53]
def loose0 : List Str := ["__name__", "SerialError", "BadFormat", "BadSheet", "BadText", "BadLetters", "NotIn", "TooLong", "UnlikeRows", "NoWords", "Endless", "Uneven", "BadCode", "TwoWays", "NoMessage", "HasBeginnings", "TooMuch", "BadLot", "TooFar", "TooMany", "Doubles", "NotThin", "BadName", "NameTaken", "NoBook", "NoName", "NoWordLeft", "IssuedBefore", "NotDrawn", "NotInForce"]
def loose1 : List Str := ["BadSign", "StillInForce", "BadDeed", "NothingToUndo", "InvalidCommand"]
def loose : List Str := loose0 ++ (loose1)
abbrev hk : PySem.W.Hook := hookL asAll fnAll tsAll exAll
abbrev ob (s : PySem.W.SharedT) : AlL := obsL asAll fnAll tsAll exAll (HandSHeadRun.getT s)
theorem ob_eq (s : PySem.W.SharedT) : ob s = hk.obs s.abs := obsL_eq (HandSHeadRun.getT_eq s)
end SG
namespace SG
open PySem PySem.W PySem.Calls PyProof.Rows HandSHeadRun
theorem part_p0 (w : World) (os : OsState) : (endF (stepQ (denQ tabQ) R.prog w) 16000 R.prog w os).map (fun x => ((looksF R.prog (boot_heap w.params) x.abs, x.abs.heap.bltView, pinSeenD qv (drecsOf qv) x.abs, plainSeenE qv (looseW qv loose) x.abs, plainSeenD qv loose x.abs, clsSeenW qv loose x.abs), seen ((recsOf qv).map (·.name)) (ownsOf qv) [] { x.abs with gens := #[] })) = some (((true, bltViewBooted, pinGoodD (drecsOf qv), plainGoodE qv (looseW qv loose), plainGoodD qv loose, clsGoodW qv loose), expectedOf qv)) := by kernel_rfl
theorem part_p1 (w : World) (os : OsState) : (endF (stepQ (denQ tabQ) R.prog w) 16000 R.prog w os).map (fun x => ((x.abs.heap.keysOk (looseW qv loose) ((recsOf qv).map (·.name)) ((litsOf qv).map (·.1)) ((clssOf qv (looseW qv loose)).map (·.name)) && x.abs.heap.accountedOkI (importedModules R.prog.main.body) && x.abs.heap.isNs mainGlobals && x.abs.heap.isNs builtinsNs && tablesOk qv x.abs.heap && (xlAt qv [] x.abs && recOk R.toRowW.records x.abs) && x.abs.gens.size == 0), wideSeen qv x.abs)) = some ((true, wideGood qv)) := by kernel_rfl
theorem part_p2 (w : World) (os : OsState) : (endF (stepQ (denQ tabQ) R.prog w) 16000 R.prog w os).map (fun x => (tabsOk qv x.abs, (fnAll.all fun d => d.ok (He.frG (getT x) asAll)), (fnAll.map fun d => He.fnW (He.frG (getT x) asAll) d.at_), (ex0 (He.frG (getT x) asAll)).all id && ((ex1 (He.frG (getT x) asAll)).all id && ((ex2 (He.frG (getT x) asAll)).all id && ((ex3 (He.frG (getT x) asAll)).all id && ((ex4 (He.frG (getT x) asAll)).all id && ((ex5 (He.frG (getT x) asAll)).all id && ((ex6 (He.frG (getT x) asAll)).all id && ((ex7 (He.frG (getT x) asAll)).all id && ((ex8 (He.frG (getT x) asAll)).all id && ((ex9 (He.frG (getT x) asAll)).all id && ((ex10 (He.frG (getT x) asAll)).all id)))))))))), tabsL (getT x) tsAll (He.frG (getT x) asAll))) = some ((true, true, fnAll.map He.DefD.val, true, true)) := by kernel_rfl
theorem run (w : World) : RunEq R qv hk ob 16000 loose w := by
  intro os
  obtain ⟨x, hx, _⟩ := Option.map_eq_some_iff.mp (part_p0 w os)
  have q_p0 := map_some hx (part_p0 w os)
  have q_p1 := map_some hx (part_p1 w os)
  have q_p2 := map_some hx (part_p2 w os)
  rw [hx]
  have k_lo := congrArg (fun z => z.1) q_p0
  have k_se := congrArg (fun z => z.2) q_p0
  have k_lk := congrArg (fun z => z.1) q_p1
  have k_wi := congrArg (fun z => z.2) q_p1
  have k_td := congrArg (fun z => z.1) q_p2
  have k_fn := congrArg (fun z => z.2.1) q_p2
  have k_fm := congrArg (fun z => z.2.2.1) q_p2
  have k_ex := congrArg (fun z => z.2.2.2.1) q_p2
  have k_tb := congrArg (fun z => z.2.2.2.2) q_p2
  have a1 := congrArg (fun z => z.1) k_lo; have a2 := congrArg (fun z => z.2.1) k_lo; have a3 := congrArg (fun z => z.2.2.1) k_lo; have a4 := congrArg (fun z => z.2.2.2.1) k_lo; have a5 := congrArg (fun z => z.2.2.2.2.1) k_lo; have a6 := congrArg (fun z => z.2.2.2.2.2) k_lo
  dsimp only at a1 a2 a3 a4 a5 a6 k_se k_lk k_td k_wi k_fn k_fm k_ex k_tb
  have oe : ob x = hk.val w := obs_parts k_fn k_fm k_ex k_tb
  refine congrArg some (Prod.ext a1 (Prod.ext ?_ oe))
  exact seen_parts (mods := importedModules R.prog.main.body) (Xt := fun s => xlAt qv [] s && recOk R.toRowW.records s) k_se a2 k_lk k_td a3 a4 a5 k_wi a6
end SG

/-! A text many times. -/
namespace SG
open PySem PySem.Spec PyProof.Rows L2
theorem rep_toList (a : Array Nat) : ∀ (n : Nat) (acc : Array Nat), ((List.replicate n a).foldl (· ++ ·) acc).toList = acc.toList ++ (List.replicate n a.toList).flatten
  | 0, acc => by simp
  | n + 1, acc => by
    rw [List.replicate_succ, List.foldl_cons, rep_toList a n, List.replicate_succ, List.flatten_cons, Array.toList_append, List.append_assoc]
section
variable {X : Cx}
def rRepS : R2 := fun x y H Q => ∃ (z : Str) (n : Nat), x = .str z ∧ y = .int n ∧ 1 ≤ n ∧ z.length * n ≤ 100000 ∧ z.length ≤ 100000 ∧ n ≤ 100000 ∧ ∀ z2 : Str, z2.cps.toList = (List.replicate n z.cps.toList).flatten → Q (.str z2) H
theorem op_repS : OpR X (binaryOp .Mult) rRepS := by
  intro pins s σ H x y v u Q I rx ry h
  obtain ⟨z, n, rfl, rfl, n1, hm, hz, hn, q⟩ := h
  obtain ⟨t, rfl⟩ := rx
  obtain ⟨t2, rfl⟩ := ry
  have zl : z.length = z.cps.size := rfl
  have n63 : ((n : Nat) : Int).toNat = n := rfl
  refine PySem.P.mul_str (by rw [decide_eq_false (by omega), decide_eq_false (by omega)]; rfl) (fun _ _ => ?_) (fun _ _ => ?_) ?_
  · have : ((100000 : Int)) ≤ (2 ^ 63 - 1) / (n : Int) := Int.le_ediv_of_mul_le (by omega) (by omega)
    omega
  · show decide (z.length * ((n : Nat) : Int).toNat > sizeLine) = false
    rw [n63, sizeLine_eq]
    exact decide_eq_false (by omega)
  · rw [if_neg (by omega)]
    by_cases h0 : (((n : Nat) : Int) == 1 || z.length == 0) = true
    · rw [if_pos h0]
      refine ⟨.str z, H, I, ⟨_, rfl⟩, q z ?_⟩
      have h1 : (n : Int) = 1 ∨ z.length = 0 := by simpa using h0
      rcases h1 with h1 | h1
      · obtain rfl : n = 1 := by omega
        simp
      · have e0 : z.cps.toList = [] := List.eq_nil_of_length_eq_zero (by rw [Array.length_toList, ← zl, h1])
        rw [e0]
        simp
    · rw [if_neg h0, n63]
      have e := rep_toList z.cps n #[]
      have e2 : ((List.replicate n z.cps).foldl (· ++ ·) #[]).toList = (List.replicate n z.cps.toList).flatten := by rw [e]; simp
      have hl : (⟨(List.replicate n z.cps).foldl (· ++ ·) #[]⟩ : Str).length ≤ sizeLine := by
        show ((List.replicate n z.cps).foldl (· ++ ·) #[]).size ≤ sizeLine
        rw [← Array.length_toList, e2, List.length_flatten, List.map_replicate, List.sum_replicate_nat, Array.length_toList, ← zl, sizeLine_eq, Nat.mul_comm]
        omega
      exact ⟨hl, .str ⟨(List.replicate n z.cps).foldl (· ++ ·) #[]⟩, H, I.tok _, ⟨_, rfl⟩, q _ e2⟩
end
/-- a tuple two times or more -/
def rRepW (K : PySem.W.Frag) : R2 := fun x y H Q => ∃ l k xs, x = .ref l ∧ y = .int k ∧ SqT K H l xs ∧ xs ≠ [] ∧ 2 ≤ k ∧ k ≤ 1000 ∧ xs.length ≤ 1000 ∧ ∀ (z : Addr) (H3 : Hp), Same H H3 → SqT K H3 z (List.replicate k.toNat xs).flatten → Q (.ref z) H3
theorem k_repW {X : Cx} {K : PySem.W.Frag} (eK : X.K = K := by rfl) : OpR X (binaryOp .Mult) (rRepW K) := by
  subst eK
  intro pins s σ H x y v u Q I rx ry h
  obtain ⟨l, k, xs, rfl, rfl, hT, hne, h1, h2, hz, q⟩ := h
  exact op_repT pins s σ H _ _ v u Q I rx ry ⟨l, k, xs, rfl, rfl, hT, hne, h1, h2, hz, fun p np => q p _ (same_new np) (.inl (.inl upd_same))⟩
theorem mkq {H H7 : Hp} {u : Addr} {o : HO} (n : H u = none) (h : upd H u o = H7) : Same H H7 ∧ H7 u = some o := by subst h; exact ⟨same_new n, upd_same⟩
theorem nextI {ts : TS} {De : Ends} {σ : L2.St} {H : Hp} (h : ts De σ H) : tNext { De with nx := ts De } σ H := h
end SG

/-! // by a divisor of either sign; texts of integers below a bound. -/
namespace SG
open PySem PySem.Spec PyProof.Rows L2
/-- // by a divisor that is not 0, below 2 ^ 9000 either way -/
def CDivN (_ j : Int) : Prop := j ≠ 0 ∧ j.natAbs.log2 < 9000
theorem op_fdivN {X : Cx} : OpR X (binaryOp .FloorDiv) (rI CDivN fun i j => .int (i.fdiv j)) := opI fun i j _ _ _ _ _ hc q =>
  floordiv_int hc.1 q (.inl (PyProof.noPylong_of_log2 hc.2))
theorem wide_divN {i j : Int} {b : Nat} (h : j ≠ 0) (hb : j.natAbs < 2 ^ b) (h0 : 0 < b) (h9 : b ≤ 9000) : CDivN i j := ⟨h, Nat.lt_of_lt_of_le (PySem.Flt.log2_lt_of h0 hb) h9⟩
theorem fdiv_pos_eq {a g : Int} (h : 0 < g) : a.fdiv g = a / g := Int.fdiv_eq_ediv_of_nonneg a (by omega)
theorem fdiv_neg_eq {a g : Int} (h : 0 < g) : a.fdiv (-g) = (-a) / g := by
  have z : (-(-a)).fdiv (-g) = (-a).fdiv g := Int.neg_fdiv_neg ..
  rw [Int.neg_neg] at z
  rw [z]
  exact fdiv_pos_eq h
end SG

/-! Data in which empty dicts stand, at any depth: its kind, its text. -/
namespace SG
open PySem PySem.Spec PyProof.Rows L2
mutual
/-- v is the data d, in which dicts are empty ones -/
inductive Dx (K : PySem.W.Frag) (H : Hp) : V → PyData → Prop
  | non : Dx K H .non .none
  | bl (b : Bool) : Dx K H (.bl b) (.bool b)
  | int (i : Int) : Dx K H (.int i) (.int i)
  | str (t : Str) : Dx K H (.str t) (.str t)
  | lst {p : Addr} {xs : List V} {es : List PyData} (hq : SqL K H p xs) (ha : DxAll K H xs es) : Dx K H (.ref p) (.list es)
  | tup {p : Addr} {xs : List V} {es : List PyData} (hq : SqT K H p xs) (ha : DxAll K H xs es) : Dx K H (.ref p) (.tuple es)
  | dct {p : Addr} (hp : H p = some (.dK [])) : Dx K H (.ref p) (.dict [])
inductive DxAll (K : PySem.W.Frag) (H : Hp) : List V → List PyData → Prop
  | nil : DxAll K H [] []
  | cons {x : V} {xs : List V} {e : PyData} {es : List PyData} (hx : Dx K H x e) (ht : DxAll K H xs es) : DxAll K H (x :: xs) (e :: es)
end
section
variable {K : PySem.W.Frag} {H H2 : Hp} {x : V} {d : PyData}
mutual
theorem dx_dp : ∀ {x : V} {d : PyData}, Dp K H x d → Dx K H x d
  | _, _, .non => .non
  | _, _, .bl b => .bl b
  | _, _, .int i => .int i
  | _, _, .str t => .str t
  | _, _, .lst q a => .lst q (dxA_dp a)
  | _, _, .tup q a => .tup q (dxA_dp a)
theorem dxA_dp : ∀ {xs : List V} {ds : List PyData}, DpAll K H xs ds → DxAll K H xs ds
  | _, _, .nil => .nil
  | _, _, .cons a b => .cons (dx_dp a) (dxA_dp b)
end
mutual
theorem dx_same (s : Same H H2) : ∀ {x : V} {d : PyData}, Dx K H x d → Dx K H2 x d
  | _, _, .non => .non
  | _, _, .bl b => .bl b
  | _, _, .int i => .int i
  | _, _, .str t => .str t
  | _, _, .lst q a => .lst (s.seq q) (dxA_same s a)
  | _, _, .tup q a => .tup (sameT s q) (dxA_same s a)
  | _, _, .dct h => .dct (s _ _ h)
theorem dxA_same (s : Same H H2) : ∀ {xs : List V} {ds : List PyData}, DxAll K H xs ds → DxAll K H2 xs ds
  | _, _, .nil => .nil
  | _, _, .cons a b => .cons (dx_same s a) (dxA_same s b)
end
theorem dx_ty (h : Dx K H x d) : TyX K H x (.type (kindOf d)) := by
  cases h with
  | non => exact .base .non
  | bl b => exact .base (.bl b)
  | int i => exact .base (.int i)
  | str s => exact .base (.str s)
  | dct h => exact .base (.dK h)
  | lst s _ =>
    rcases s with (s | ⟨o, s⟩) | ⟨o, vs, n, s, c, _⟩
    · exact .base (.lst s)
    · exact .base (.frz s)
    · exact .kList s c
  | tup s _ =>
    rcases s with (s | ⟨o, s⟩) | ⟨o, vs, n, s, c, _⟩
    · exact .base (.tup s)
    · exact .fTuple s
    · exact .kTuple s c
theorem dxA_len : ∀ {xs : List V} {ds : List PyData}, DxAll K H xs ds → xs.length = ds.length
  | _, _, .nil => rfl
  | _, _, .cons _ b => congrArg (· + 1) (dxA_len b)
theorem dxA_get : ∀ {xs : List V} {ds : List PyData} {i : Nat} {x : V}, DxAll K H xs ds → xs[i]? = some x → ∃ d, ds[i]? = some d ∧ Dx K H x d
  | _, _, _, _, .nil, e => by simp at e
  | _, _, 0, _, .cons a b, e => by
    simp at e
    subst e
    exact ⟨_, rfl, a⟩
  | _, _, i + 1, x, .cons a b, e => by
    obtain ⟨d, h1, h2⟩ := dxA_get (i := i) (x := x) b (by simpa using e)
    exact ⟨d, by simpa using h1, h2⟩
theorem dxA_app : ∀ {xs ys : List V} {ds es : List PyData}, DxAll K H xs ds → DxAll K H ys es → DxAll K H (xs ++ ys) (ds ++ es)
  | _, _, _, _, .nil, h => h
  | _, _, _, _, .cons a b, h => .cons a (dxA_app b h)
theorem dxA_take : ∀ {xs : List V} {ds : List PyData} (n : Nat), DxAll K H xs ds → DxAll K H (xs.take n) (ds.take n)
  | _, _, 0, _ => .nil
  | _, _, _ + 1, .nil => .nil
  | _, _, n + 1, .cons a b => .cons a (dxA_take n b)
theorem dxA_drop : ∀ {xs : List V} {ds : List PyData} (n : Nat), DxAll K H xs ds → DxAll K H (xs.drop n) (ds.drop n)
  | _, _, 0, h => h
  | _, _, _ + 1, .nil => .nil
  | _, _, n + 1, .cons a b => dxA_drop n b
theorem dxA_rev : ∀ {xs : List V} {ds : List PyData}, DxAll K H xs ds → DxAll K H xs.reverse ds.reverse
  | _, _, .nil => .nil
  | _, _, .cons a b => by
    rw [List.reverse_cons, List.reverse_cons]
    exact dxA_app (dxA_rev b) (.cons a .nil)
theorem dx_tuple {ds : List PyData} (h : Dx K H x (.tuple ds)) : ∃ a xs, x = .ref a ∧ SqT K H a xs ∧ DxAll K H xs ds := by
  cases h with
  | tup q a => exact ⟨_, _, rfl, q, a⟩
theorem kit_d (T : String) (p : PyData → Bool) (h : ∀ d, kitB (kindOf d) T = some (p d)) (d : PyData) : PySem.W.kitOne K (.type (kindOf d)) (.type T) = some (p d) := kit_ty (h d)
theorem isx_tuple (d : PyData) : PySem.W.kitOne K (.type (kindOf d)) (.type "tuple") = some (isTup d) := kit_d _ _ (fun d => by
  cases d with
  | none => exact (show kitB "NoneType" "tuple" = some false by decide +kernel)
  | bool _ => exact (show kitB "bool" "tuple" = some false by decide +kernel)
  | int _ => exact (show kitB "int" "tuple" = some false by decide +kernel)
  | str _ => exact (show kitB "str" "tuple" = some false by decide +kernel)
  | list _ => exact (show kitB "list" "tuple" = some false by decide +kernel)
  | tuple _ => exact (show kitB "tuple" "tuple" = some true by decide +kernel)
  | dict _ => exact (show kitB "dict" "tuple" = some false by decide +kernel)) d
theorem isx_int (d : PyData) : PySem.W.kitOne K (.type (kindOf d)) (.type "int") = some (isIntLike d) := kit_d _ _ (fun d => by
  cases d with
  | none => exact (show kitB "NoneType" "int" = some false by decide +kernel)
  | bool _ => exact (show kitB "bool" "int" = some true by decide +kernel)
  | int _ => exact (show kitB "int" "int" = some true by decide +kernel)
  | str _ => exact (show kitB "str" "int" = some false by decide +kernel)
  | list _ => exact (show kitB "list" "int" = some false by decide +kernel)
  | tuple _ => exact (show kitB "tuple" "int" = some false by decide +kernel)
  | dict _ => exact (show kitB "dict" "int" = some false by decide +kernel)) d
theorem isx_bool (d : PyData) : PySem.W.kitOne K (.type (kindOf d)) (.type "bool") = some (isBool d) := kit_d _ _ (fun d => by
  cases d with
  | none => exact (show kitB "NoneType" "bool" = some false by decide +kernel)
  | bool _ => exact (show kitB "bool" "bool" = some true by decide +kernel)
  | int _ => exact (show kitB "int" "bool" = some false by decide +kernel)
  | str _ => exact (show kitB "str" "bool" = some false by decide +kernel)
  | list _ => exact (show kitB "list" "bool" = some false by decide +kernel)
  | tuple _ => exact (show kitB "tuple" "bool" = some false by decide +kernel)
  | dict _ => exact (show kitB "dict" "bool" = some false by decide +kernel)) d
def isStrD : PyData → Bool
  | .str _ => true
  | _ => false
theorem isx_str (d : PyData) : PySem.W.kitOne K (.type (kindOf d)) (.type "str") = some (isStrD d) := kit_d _ _ (fun d => by
  cases d with
  | none => exact (show kitB "NoneType" "str" = some false by decide +kernel)
  | bool _ => exact (show kitB "bool" "str" = some false by decide +kernel)
  | int _ => exact (show kitB "int" "str" = some false by decide +kernel)
  | str _ => exact (show kitB "str" "str" = some true by decide +kernel)
  | list _ => exact (show kitB "list" "str" = some false by decide +kernel)
  | tuple _ => exact (show kitB "tuple" "str" = some false by decide +kernel)
  | dict _ => exact (show kitB "dict" "str" = some false by decide +kernel)) d
end
/-! ### its text -/
mutual
/-- ints of at most 4300 figures, no dict but empty ones -/
def tellE : PyData → Bool
  | .int i => decide (i.natAbs < 10 ^ 4300)
  | .list xs => tellEAll xs
  | .tuple xs => tellEAll xs
  | .dict kvs => kvs.isEmpty
  | .none => true
  | .bool _ => true
  | .str _ => true
def tellEAll : List PyData → Bool
  | [] => true
  | x :: xs => tellE x && tellEAll xs
end
section
variable {X : Cx} {pins : List (Addr × Obj)} {σ : L2.St} {H : Hp} {s : Shared}
theorem dct_at {a : Addr} (I : Inv X pins σ H s) (ha : H a = some (.dK [])) : (a == sysModules) = false ∧ ∃ o n, s.heap.get? a = some o ∧ o.cls = .type "dict" ∧ o.data = .dict #[] n := by
  obtain ⟨_, hs, vs, kv, o, es, ep, e1, e2, e3, e4, e5, _⟩ := I.hok a _ ha
  cases kv
  have e6 : es = #[] := by
    cases es with
    | mk l => cases l with
      | nil => rfl
      | cons y l => cases e5
  subst e6
  exact ⟨hs, o, ep, e1, e2.1, e3⟩
mutual
theorem dx_told (hn : s.heap.NoDigits) (I : Inv X pins σ H s) : ∀ (d : PyData) (v : V) (u : Value), Dx X.K H v d → RelV v u →
    ∃ as, Reads s.heap u d as ∧ (tellE d = true → d.shown.length ≤ sizeLine → ∃ bs, ReadAtMost s.heap d.depth bs ∧ ReprK X.prog X.w bs s.heap d.depth u d.shown)
  | .none, _, _, h, r => by
    cases h
    cases r
    exact ⟨_, .none, fun _ _ => ⟨[], (fun _ h => nomatch h), by simp only [PyData.shown]; exact .of_is ReprIs.none _ _ _⟩⟩
  | .bool b, _, _, h, r => by
    cases h
    cases r
    exact ⟨_, .bool b, fun _ _ => ⟨[], (fun _ h => nomatch h), by simp only [PyData.shown]; exact .of_is (ReprIs.bool b) _ _ _⟩⟩
  | .int i, _, _, h, r => by
    cases h
    obtain ⟨t, rfl⟩ := r
    exact ⟨_, .int i t, fun ht _ => ⟨[], (fun _ h => nomatch h), by simp only [PyData.shown]; exact reprK_int hn (of_decide_eq_true (by simpa only [tellE] using ht)) _⟩⟩
  | .str x, _, _, h, r => by
    cases h
    obtain ⟨t, rfl⟩ := r
    exact ⟨_, .str x t, fun _ hz => ⟨[], (fun _ h => nomatch h), by simp only [PyData.shown] at hz ⊢; exact .of_is (ReprIs.str x t hz) _ _ _⟩⟩
  | .list ds, _, _, h, r => by
    cases h with
    | lst hs ha =>
      rename_i p xs
      cases r
      obtain ⟨its, rv, ⟨o, n, ho, hc, hw, hd⟩, _⟩ := I.list hs
      obtain ⟨as, q4, hk⟩ := dxA_told hn I ds _ its ha rv
      have whole : Reads s.heap (.ref p) (.list ds) _ := .list ho hc hd q4
      refine ⟨_, whole, fun ht hz => ?_⟩
      have hz2 : (listText (PyData.shownAll ds)).length ≤ sizeLine := by simpa only [PyData.shown] using hz
      obtain ⟨bs, rb, kb⟩ := hk (by simpa only [tellE] using ht) fun t m => Nat.le_trans (listText_mem_le m) hz2
      refine ⟨p :: bs, ReadAtMost.cons whole (by simp only [PyData.depth]; omega) rb, ?_⟩
      have notIn : p ∉ bs := not_mem_of_deeper whole (by simp only [PyData.depth]; omega) rb
      simp only [PyData.depth, PyData.shown]
      cases its with
      | nil =>
        cases q4
        simp only [PyData.shownAll, listText_nil]
        exact ReprK.listEmpty ho hc hd
      | cons y l => exact ReprK.list ho hc hd notIn (by simpa using kb.length_eq) fun i y e => kb.item i y (by simpa using e)
  | .tuple ds, _, _, h, r => by
    cases h with
    | tup hs ha =>
      rename_i p xs
      cases r
      obtain ⟨its, rv, ⟨o, ho, hc, n, hd⟩, _⟩ := I.tuple hs
      obtain ⟨as, q4, hk⟩ := dxA_told hn I ds _ its ha rv
      have whole : Reads s.heap (.ref p) (.tuple ds) _ := .tuple ho hc hd q4
      refine ⟨_, whole, fun ht hz => ?_⟩
      have hz2 : (tupleText (PyData.shownAll ds)).length ≤ sizeLine := by simpa only [PyData.shown] using hz
      obtain ⟨bs, rb, kb⟩ := hk (by simpa only [tellE] using ht) fun t m => Nat.le_trans (tupleText_mem_le m) hz2
      refine ⟨p :: bs, ReadAtMost.cons whole (by simp only [PyData.depth]; omega) rb, ?_⟩
      have notIn : p ∉ bs := not_mem_of_deeper whole (by simp only [PyData.depth]; omega) rb
      simp only [PyData.depth, PyData.shown]
      exact ReprK.tuple ho hc hd notIn (by simpa using kb)
  | .dict kvs, _, _, h, r => by
    cases h with
    | dct hp =>
      rename_i p
      cases r
      obtain ⟨hs, o, n, h1, h2, h3⟩ := dct_at I hp
      have whole : Reads s.heap (.ref p) (.dict []) ([p] ++ []) := .dict (as := []) (bs := []) h1 h2 h3 .nil .nil
      refine ⟨_, whole, fun _ _ => ⟨[p], ReadAtMost.cons whole (Nat.le_refl _) (fun _ h => nomatch h), ?_⟩⟩
      have z := ReprK.dict (prog := X.prog) (w := X.w) (as := []) (d := 0) (ps := []) h1 h2 h3 hs (by simp) .nil
      simp only [PyData.depth, PyData.depthKv, PyData.shown, PyData.shownKv]
      exact z
theorem dxA_told (hn : s.heap.NoDigits) (I : Inv X pins σ H s) : ∀ (ds : List PyData) (vs : List V) (us : List Value), DxAll X.K H vs ds → Vals vs us →
    ∃ as, ReadsAll s.heap us ds as ∧ (tellEAll ds = true → (∀ t ∈ PyData.shownAll ds, t.length ≤ sizeLine) → ∃ bs, ReadAtMost s.heap (PyData.depthAll ds) bs ∧ ReprAllK X.prog X.w bs s.heap (PyData.depthAll ds) us (PyData.shownAll ds))
  | [], _, _, h, r => by
    cases h
    cases r
    exact ⟨_, .nil, fun _ _ => ⟨[], (fun _ h => nomatch h), by simp only [PyData.shownAll]; exact .nil⟩⟩
  | d :: ds, _, _, h, r => by
    cases h with
    | cons h1 h2 =>
      cases r with
      | cons r1 r2 =>
        obtain ⟨as1, q1, k1⟩ := dx_told hn I d _ _ h1 r1
        obtain ⟨as2, q2, k2⟩ := dxA_told hn I ds _ _ h2 r2
        refine ⟨_, .cons q1 q2, fun ht hz => ?_⟩
        have ht2 : tellE d = true ∧ tellEAll ds = true := by simpa only [tellEAll, Bool.and_eq_true] using ht
        obtain ⟨c1, rc1, e1⟩ := k1 ht2.1 (hz _ (by simp only [PyData.shownAll]; exact List.mem_cons_self))
        obtain ⟨c2, rc2, e2⟩ := k2 ht2.2 fun t m => hz t (by simp only [PyData.shownAll]; exact List.mem_cons_of_mem _ m)
        refine ⟨c1 ++ c2, (rc1.mono ?_).append (rc2.mono ?_), ?_⟩
        · simp only [PyData.depthAll]; exact Nat.le_max_left _ _
        · simp only [PyData.depthAll]; exact Nat.le_max_right _ _
        · simp only [PyData.depthAll, PyData.shownAll]
          exact .cons ((e1.more fun b m => List.mem_append_left _ m).level_le (Nat.le_max_left _ _)) (e2.more_le (fun b m => List.mem_append_right _ m) (Nat.le_max_right _ _))
end
end
section
variable {X : Cx}
def rReprX (K : PySem.W.Frag) : List V → Hp → VK → Prop := fun xs Hx R => ∃ x d, xs = [x] ∧ Dx K Hx x d ∧ tellE d = true ∧ d.depth ≤ 60 ∧ d.shown.length ≤ sizeLine ∧ R (.str d.shown) Hx
theorem call_reprX (hn : X.base.NoDigits) (hg : X.A.guards = some []) {k : Nat} (hr : Room k X.A) : CallR X (.builtin "repr") (rReprX X.K) := by
  intro pins st σ Hx xs us R I rv h
  obtain ⟨x, d, rfl, hd, ht, hdep, hz, q⟩ := h
  obtain ⟨u, rfl, rx⟩ : ∃ u, us = [u] ∧ RelV x u := by
    cases rv with
    | cons a b => cases b; exact ⟨_, rfl, a⟩
  have hu := hr.units
  have ndig := digs hn I
  cases hd with
  | non =>
    obtain rfl : u = Value.none := rx
    simp only [PyData.shown] at q
    exact PySem.P.repr_of_none ⟨.str _, Hx, I.tok _, ⟨_, rfl⟩, q⟩
  | bl b =>
    obtain rfl : u = Value.bool b := rx
    simp only [PyData.shown] at q
    exact PySem.P.repr_of_bool ⟨.str _, Hx, I.tok _, ⟨_, rfl⟩, q⟩
  | int i =>
    obtain ⟨t, rfl⟩ := rx
    simp only [PyData.shown] at q
    exact int_repr (by omega) ndig (of_decide_eq_true (by simpa only [tellE] using ht)) ⟨.str _, Hx, I.tok _, ⟨_, rfl⟩, q⟩
  | str y =>
    obtain ⟨t, rfl⟩ := rx
    simp only [PyData.shown] at q hz
    exact PySem.P.repr_of_str ⟨.str _, Hx, I.tok _, ⟨_, rfl⟩, q⟩ hz
  | dct hp =>
    rename_i p
    obtain rfl : u = Value.ref p := rx
    obtain ⟨hs, o, n, h1, h2, h3⟩ := dct_at I hp
    have e : PyData.shown (.dict []) = "{}" := by decide +kernel
    rw [e] at q
    exact repr_dict0 h1 h2 h3 hs hg (by omega) fun h2 u tk hk => ⟨.str _, Hx, I.kept (t' := tk) hk, ⟨_, rfl⟩, q⟩
  | lst hs ha =>
    rename_i p xs ds
    obtain rfl : u = Value.ref p := rx
    obtain ⟨its, rv, ⟨o, n, ho, hc, hw, hd⟩, _⟩ := I.list hs
    obtain ⟨as, q4, hk⟩ := dxA_told ndig I ds _ its ha rv
    have whole : Reads st.heap (.ref p) (.list ds) _ := .list ho hc hd q4
    simp only [PyData.depth] at hdep
    simp only [PyData.shown] at q hz
    obtain ⟨bs, rb, kb⟩ := hk (by simpa only [tellE] using ht) fun t m => Nat.le_trans (listText_mem_le m) hz
    have notIn : p ∉ bs := not_mem_of_deeper whole (by simp only [PyData.depth]; omega) rb
    refine call_repr_slot (by omega) ⟨o, ho, hc⟩ F.slot_list_repr.toG ?_
    cases its with
    | nil =>
      cases q4
      simp only [PyData.shownAll, listText_nil] at q
      exact call_list_repr_empty ⟨o, ho, hc⟩ ho hd ⟨_, _, rfl, ⟨.str _, Hx, I.tok _, ⟨_, rfl⟩, q⟩⟩
    | cons y l => exact call_list_reprK ho hc hd notIn (by simpa using kb.length_eq) (fun i y e => kb.item i y (by simpa using e)) hg (fun b _ => Clear.nil b) (by show X.A.units + 1 + _ < _; omega) (fun _ _ e => e) (fun h2 u tk hk => ⟨_, _, rfl, ⟨.str _, Hx, I.kept (t' := tk) hk, ⟨_, rfl⟩, q⟩⟩) hz
  | tup hs ha =>
    rename_i p xs ds
    obtain rfl : u = Value.ref p := rx
    obtain ⟨its, rv, ⟨o, ho, hc, n, hd⟩, _⟩ := I.tuple hs
    obtain ⟨as, q4, hk⟩ := dxA_told ndig I ds _ its ha rv
    have whole : Reads st.heap (.ref p) (.tuple ds) _ := .tuple ho hc hd q4
    simp only [PyData.depth] at hdep
    simp only [PyData.shown] at q hz
    obtain ⟨bs, rb, kb⟩ := hk (by simpa only [tellE] using ht) fun t m => Nat.le_trans (tupleText_mem_le m) hz
    have notIn : p ∉ bs := not_mem_of_deeper whole (by simp only [PyData.depth]; omega) rb
    refine call_repr_slot (by omega) ⟨o, ho, hc⟩ F.slot_tuple_repr ?_
    exact call_tuple_reprK ho hc hd notIn (by simpa using kb) hg (fun b _ => Clear.nil b) (by show X.A.units + 1 + _ < _; omega) (fun _ _ e => e) (fun h2 u tk hk => ⟨_, _, rfl, ⟨.str _, Hx, I.kept (t' := tk) hk, ⟨_, rfl⟩, q⟩⟩) hz
theorem k_reprX {K : PySem.W.Frag} {k : Nat} (hn : X.base.NoDigits) (hg : X.A.guards = some []) (hr : Room k X.A) (e : X.K = K := by rfl) : CallR X (.builtin "repr") (rReprX K) := e ▸ call_reprX hn hg hr
end
end SG

/-! Comparing with an empty list or tuple, whatever is held; whole numbers and truths put together with one. -/
namespace SG
open PySem PySem.Spec PyProof.Rows L2
section
variable {X : Cx}
/-- both lists, or both tuples, the second one empty -/
def NilPair (K : PySem.W.Frag) (H : Hp) (a b : Addr) (xs : List V) : Prop := (SqT K H a xs ∧ SqT K H b []) ∨ (SqL K H a xs ∧ SqL K H b [])
def rEqE (K : PySem.W.Frag) : R2 := fun x y H Q => ∃ a b xs, x = .ref a ∧ y = .ref b ∧ NilPair K H a b xs ∧ Q (.bl xs.isEmpty) H
def rNeE (K : PySem.W.Frag) : R2 := fun x y H Q => ∃ a b xs, x = .ref a ∧ y = .ref b ∧ NilPair K H a b xs ∧ Q (.bl (!xs.isEmpty)) H
theorem size_of_vals {xs : List V} {us : List Value} (r : Vals xs us) : us.toArray.size = xs.length := by rw [List.size_toArray, r.length]
theorem vals_nil {us : List Value} (r : Vals [] us) : us = [] := by cases r; rfl
theorem op_eqE (hu : X.A.units < cLine) : OpR X (compareOp .Eq) (rEqE X.K) := by
  intro pins s σ H x y v u Q I rx ry h
  obtain ⟨a, b, xs, rfl, rfl, h, q⟩ := h
  cases rx
  cases ry
  rcases h with ⟨ha, hb⟩ | ⟨ha, hb⟩
  · obtain ⟨is1, r1, p1, _⟩ := I.tuple ha
    obtain ⟨is2, r2, p2, _⟩ := I.tuple hb
    obtain rfl := vals_nil r2
    have e := size_of_vals r1
    refine SeqAt.eq_tupleAt p1 p2 hu (e := fun _ => true) (fun j _ h2 => absurd h2 (by simp)) ⟨.bl xs.isEmpty, H, I, ?_, q⟩
    show Value.bool _ = Value.bool _
    congr 1
    rw [e]
    cases xs <;> simp
  · obtain ⟨is1, r1, p1, _⟩ := I.list ha
    obtain ⟨is2, r2, p2, _⟩ := I.list hb
    obtain rfl := vals_nil r2
    have e := size_of_vals r1
    cases xs with
    | nil => exact SeqAt.eq_listAt p1.isList p2.isList (by rw [e]; rfl) hu (e := fun _ => true) (fun j _ h2 => absurd h2 (by simp)) ⟨.bl true, H, I, by rw [e]; rfl, q⟩
    | cons z zs => exact SeqAt.eq_list_lengthsAt p1.isList p2.isList (by rw [e]; simp) hu ⟨.bl false, H, I, rfl, q⟩
theorem op_neE (hu : X.A.units < cLine) : OpR X (compareOp .NotEq) (rNeE X.K) := by
  intro pins s σ H x y v u Q I rx ry h
  obtain ⟨a, b, xs, rfl, rfl, h, q⟩ := h
  cases rx
  cases ry
  rcases h with ⟨ha, hb⟩ | ⟨ha, hb⟩
  · obtain ⟨is1, r1, p1, _⟩ := I.tuple ha
    obtain ⟨is2, r2, p2, _⟩ := I.tuple hb
    obtain rfl := vals_nil r2
    have e := size_of_vals r1
    refine SeqAt.RcNeAt.tuples p1 p2 hu (e := fun _ => true) (fun j _ h2 => absurd h2 (by simp)) X.prog X.w X.xe _ ⟨.bl (!xs.isEmpty), H, I, ?_, q⟩
    show Value.bool _ = Value.bool _
    congr 1
    rw [e]
    cases xs <;> simp
  · obtain ⟨is1, r1, p1, _⟩ := I.list ha
    obtain ⟨is2, r2, p2, _⟩ := I.list hb
    obtain rfl := vals_nil r2
    have e := size_of_vals r1
    cases xs with
    | nil => exact SeqAt.RcNeAt.lists p1.isList p2.isList (by rw [e]; rfl) hu (e := fun _ => true) (fun j _ h2 => absurd h2 (by simp)) X.prog X.w X.xe _ ⟨.bl false, H, I, by rw [e]; rfl, q⟩
    | cons z zs => exact SeqAt.RcNeAt.lists_lengths p1.isList p2.isList (by rw [e]; simp) hu X.prog X.w X.xe _ ⟨.bl true, H, I, rfl, q⟩
theorem k_eqE {K : PySem.W.Frag} (hu : X.A.units + 64 < cLine) (e : X.K = K := by rfl) : OpR X (compareOp .Eq) (rEqE K) := e ▸ op_eqE (by omega)
theorem k_neE {K : PySem.W.Frag} (hu : X.A.units + 64 < cLine) (e : X.K = K := by rfl) : OpR X (compareOp .NotEq) (rNeE K) := e ▸ op_neE (by omega)
/-! ### whole numbers and truths -/
/-- the number that a whole number, or a truth, counts as -/
def num : PyData → Int
  | .int i => i
  | .bool b => if b = true then 1 else 0
  | _ => 0
/-- x is the whole number or truth d -/
def NumV (x : V) (d : PyData) : Prop := (∃ i, x = .int i ∧ d = .int i) ∨ (∃ b, x = .bl b ∧ d = .bool b)
def rAddN : R2 := fun x y H Q => ∃ d j, NumV x d ∧ y = .int j ∧ Q (.int (num d + j)) H
def rSubN : R2 := fun x y H Q => ∃ d j, NumV x d ∧ y = .int j ∧ Q (.int (num d - j)) H
def rEqN : R2 := fun x y H Q => ∃ d j, NumV x d ∧ y = .int j ∧ Q (.bl (num d == j)) H
theorem op_addN : OpR X (binaryOp .Add) rAddN := by
  intro pins s σ H x y v u Q I rx ry h
  obtain ⟨d, j, hx, rfl, q⟩ := h
  obtain ⟨t, rfl⟩ := ry
  rcases hx with ⟨i, rfl, rfl⟩ | ⟨b, rfl, rfl⟩
  · obtain ⟨t1, rfl⟩ := rx
    exact add_int ⟨.int (i + j), H, I.tok _, ⟨_, rfl⟩, q⟩
  · cases rx
    exact IntBool.add_bool_int ⟨.int _, H, I.tok _, ⟨_, rfl⟩, q⟩
theorem op_subN : OpR X (binaryOp .Sub) rSubN := by
  intro pins s σ H x y v u Q I rx ry h
  obtain ⟨d, j, hx, rfl, q⟩ := h
  obtain ⟨t, rfl⟩ := ry
  rcases hx with ⟨i, rfl, rfl⟩ | ⟨b, rfl, rfl⟩
  · obtain ⟨t1, rfl⟩ := rx
    exact sub_int ⟨.int (i - j), H, I.tok _, ⟨_, rfl⟩, q⟩
  · cases rx
    exact IntBool.sub_bool_int ⟨.int _, H, I.tok _, ⟨_, rfl⟩, q⟩
theorem op_eqN : OpR X (compareOp .Eq) rEqN := by
  intro pins s σ H x y v u Q I rx ry h
  obtain ⟨d, j, hx, rfl, q⟩ := h
  obtain ⟨t, rfl⟩ := ry
  rcases hx with ⟨i, rfl, rfl⟩ | ⟨b, rfl, rfl⟩
  · obtain ⟨t1, rfl⟩ := rx
    exact SeqAt.RcAt.int_int i t1 j t X.prog X.w X.xe _ ⟨.bl _, H, I, rfl, q⟩
  · cases rx
    exact SeqAt.RcAt.bool_int b j t X.prog X.w X.xe _ ⟨.bl _, H, I, rfl, q⟩
/-- str of a whole number or a truth -/
def numT : PyData → Str
  | .int i => Str.ofString (toString i)
  | .bool b => if b = true then "True" else "False"
  | _ => ""
def rStrN : List V → Hp → VK → Prop := fun xs H Q => ∃ x d, xs = [x] ∧ NumV x d ∧ (num d).natAbs.log2 < 1920 ∧ Q (.str (numT d)) H
theorem call_strN : CallR X (.type "str") rStrN := by
  intro pins s σ H xs us Q I r h
  obtain ⟨x, d, rfl, hx, hl, q⟩ := h
  rcases hx with ⟨i, rfl, rfl⟩ | ⟨b, rfl, rfl⟩
  · exact call_str_int pins s σ H [.int i] us Q I r ⟨i, rfl, hl, q⟩
  · obtain ⟨u, rfl, rx⟩ : ∃ u, us = [u] ∧ RelV (.bl b) u := by
      cases r with
      | cons a c => cases c; exact ⟨_, rfl, a⟩
    cases rx
    exact PySem.P.str_of_bool ⟨.str _, H, I.tok _, ⟨_, rfl⟩, q⟩
end
end SG

/-! Turned round: a tuple or a text; a text twice. -/
namespace SG
open PySem PySem.Spec PyProof.Rows L2
section
variable {prog : Program} {w : World} {A : Around} {Er : Value → Shared → Prop} {s : Shared}
theorem turn_idx {α : Type} (xs : Array α) : (List.range xs.size).filterMap (fun (j : Nat) => xs[(((xs.size : Int) - 1) + (j : Int) * (-1)).toNat]?) = xs.toList.reverse := by
  have e : (fun (j : Nat) => xs[(((xs.size : Int) - 1) + (j : Int) * (-1)).toNat]?) = (fun j => xs[j]?) ∘ fun j : Nat => ((((xs.size : Int) - 1) + (j : Int) * (-1)).toNat) := rfl
  have m : (List.range xs.size).map (fun j : Nat => ((((xs.size : Int) - 1) + (j : Int) * (-1)).toNat)) = (List.range xs.size).map fun j => xs.size - 1 - j := by
    apply List.map_congr_left
    intro j hj
    have := List.mem_range.mp hj
    omega
  rw [e, ← List.filterMap_map, m, PySem.W.krv_range, List.filterMap_reverse, PySem.W.krv_all]
theorem turn_applied {sl : Addr} {vl vu vs : Value} {n : Nat} {Q : Int × Int × Nat → Shared → Prop} (hs : s.heap.IsSliceOf sl vl vu vs) (pl : IsPart vl none) (pu : IsPart vu none) (ps : IsPart vs (some (-1)))
    (h : Q ((n : Int) - 1, -1, n) s) : wpAny (model prog w) A (Builtin.Slice.sliceApplied (.ref sl) (pure (n : Int))) Q Er s := by
  obtain ⟨ob, g1, g2, g3⟩ := id hs
  unfold Builtin.Slice.sliceApplied Builtin.Slice.sliceFields
  refine wpAny_bind (wpAny_bind (wpAny_field g1 g3 (x := vl) rfl (wpAny_bind (wpAny_field g1 g3 (x := vu) rfl (wpAny_bind (wpAny_field g1 g3 (x := vs) rfl (wpAny_pure ?_)))))))
  refine wpAny_bind (HT.slicePart_ ps ?_)
  show wpAny _ _ (if ((-1 : Int) == 0) = true then _ else _) _ _ s
  rw [if_neg (by decide)]
  refine wpAny_bind (HT.slicePart_ pl (wpAny_bind (HT.slicePart_ pu (wpAny_bind (wpAny_pure ?_)))))
  show wpAny _ _ (match Builtin.Slice.sliceAdjust none none (-1) (n : Int) with | (lo, hi) => pure (lo, (-1 : Int), Builtin.Slice.slicePlaces lo hi (-1))) _ _ s
  have e1 : Builtin.Slice.sliceAdjust none none (-1) (n : Int) = ((n : Int) - 1, -1) := by
    unfold Builtin.Slice.sliceAdjust
    simp
  rw [e1]
  show wpAny _ _ (pure ((n : Int) - 1, (-1 : Int), Builtin.Slice.slicePlaces ((n : Int) - 1) (-1) (-1))) _ _ s
  have e2 : Builtin.Slice.slicePlaces ((n : Int) - 1) (-1) (-1) = n := by
    unfold Builtin.Slice.slicePlaces
    rw [if_neg (show ¬ ((-1 : Int) > 0) by decide)]
    by_cases hn : n = 0
    · subst hn
      simp
    · rw [if_pos (show (n : Int) - 1 > -1 by omega)]
      have : ((n : Int) - 1 - -1 - 1) / (- -1) = (n : Int) - 1 := by
        rw [show (- -1 : Int) = 1 by decide, Int.ediv_one]
        omega
      omega
  rw [e2]
  exact wpAny_pure h
theorem getItem_tuple_turn {t sl : Addr} {its : Array Value} {vl vu vs : Value} {Q : Value → Shared → Prop} (ht : IsTup s.heap t its) (hs : s.heap.IsSliceOf sl vl vu vs) (pl : IsPart vl none) (pu : IsPart vu none) (ps : IsPart vs (some (-1)))
    (hz : its.size ≤ sizeLine) (h : Q (.ref s.heap.objs.size) { s with heap := s.heap.push { cls := .type "tuple", data := .seq its.toList.reverse.toArray } }) : wpAny (model prog w) A (getItem (.ref t) (.ref sl)) Q Er s := by
  obtain ⟨ob, g1, g2, g3⟩ := id hs
  have hT : s.TypeIs (.ref sl) "slice" := ⟨ob, g1, g2⟩
  unfold getItem
  (try with_reducible refine wpAny_holding ?_); (first | refine wpAny_bind (wpAny_pure ?_) | skip)
  refine' wpAny_bind (wpAny_sequenceKey ht.typeIs (by decide) ?_)
  refine wpAny_bind (wpAny_callSpecial?_slot (name := Str.ofString "__getitem__") ht.typeIs PyProof.Rows.slot_tuple_getitem (wpAny_call_entry PyProof.Rows.slot_tuple_getitem ht.typeIs entry_tuple_getitem ?_ (args_tuple_getitem _ _)))
  show wpAny (model prog w) _ (Builtin.Tuple.tupleItemsOf (.ref t) >>= _) _ _ s
  refine' wpAny_bind (tupleItemsOf_ ht (wpAny_bind (wpAny_typeOf hT ?_)))
  rw [if_pos (by decide)]
  refine wpAny_bind (turn_applied hs pl pu ps ?_)
  have hno : ¬ ((((its.size : Int) - 1) == 0 && (-1 : Int) == 1 && its.size == its.size) = true) := by simp
  show wpAny _ _ (if (((its.size : Int) - 1) == 0 && (-1 : Int) == 1 && its.size == its.size) = true then _ else _) _ _ s
  rw [if_neg hno, turn_idx]
  have hsz : sizeOk (.seq its.toList.reverse.toArray) := by
    show its.toList.reverse.toArray.size ≤ sizeLine
    rw [List.size_toArray, List.length_reverse, Array.length_toList]
    exact hz
  have fin := h
  first
    | exact wpAny_bind (m := Builtin.Tuple.tupleExact _) (wpAny_newObj_type (wpAny_pure ⟨_, rfl, wpAny_pure fin⟩) hsz)
    | exact wpAny_bind (m := Builtin.Tuple.tupleExact _) (wpAny_newObj_type (wpAny_bind (wpAny_pure (wpAny_pure ⟨_, rfl, wpAny_pure fin⟩))) hsz)
    | exact wpAny_bind (wpAny_bind (m := Builtin.Tuple.tupleExact _) (wpAny_newObj_type (wpAny_pure (wpAny_pure ⟨_, rfl, wpAny_pure fin⟩)) hsz))
    | exact wpAny_bind (wpAny_bind (m := Builtin.Tuple.tupleExact _) (wpAny_newObj_type (wpAny_pure ⟨_, rfl, wpAny_pure fin⟩) hsz))
end
section
variable {X : Cx}
/-- a tuple or a text turned round -/
def tRevX (K : PySem.W.Frag) (te : TE) : TE := fun σ H Q => te σ H fun x H1 => (∃ a xs, x = .ref a ∧ SqT K H1 a xs ∧ ∀ p, H1 p = none → Q (.ref p) (upd H1 p (.tup xs.reverse))) ∨
  (∃ z : Str, x = .str z ∧ z.length ≤ 100000 ∧ ∀ z2 : Str, z2.cps.toList = z.cps.toList.reverse → Q (.str z2) H1)
theorem pe_revX {K : PySem.W.Frag} {e : Expr} {te : TE} {k : Nat} {p1 p2 p3 pos : Pos} (he : PE X e te) (eK : X.K = K := by rfl) :
    PE X (.Subscript e (.Slice none none (some (.UnaryOp .USub (.Constant (.int 1) k p1) p2)) p3) pos) (tRevX K te) := by
  subst eK
  refine ⟨fun pins s σ H Q I h => ?_⟩
  refine Subscript_ (thn (he.run pins s σ H _ I h) fun v s1 ⟨x, H1, I1, r1, q1⟩ => ?_)
  have hstep : PO X (some (.UnaryOp .USub (.Constant (.int 1) k p1) p2)) (tPart (tUn (rU fun i => .int (-i)) (tC (.int 1)))) := po_some (pe_un un_neg pe_int)
  refine wpAny_Slice (thn (po_none.run pins s1 σ H1 (fun o Ha => o = none ∧ Ha = H1) I1 ⟨rfl, rfl⟩) fun vl s2 ⟨lo, H2, I2, pl, e1, e2⟩ => ?_)
  subst e1 e2
  refine thn (po_none.run pins s2 σ H2 (fun o Ha => o = none ∧ Ha = H2) I2 ⟨rfl, rfl⟩) fun vu s3 ⟨hi, H3, I3, pu, e3, e4⟩ => ?_
  subst e3 e4
  refine thn (hstep.run pins s3 σ H3 (fun o Ha => o = some (-1) ∧ Ha = H3) I3 ⟨1, rfl, -1, rfl, rfl, rfl⟩) fun vs s4 ⟨o, H4, I4, ps, e5, e6⟩ => ?_
  subst e5 e6
  have I5 : Inv X pins σ H4 { s4 with heap := s4.heap.push { cls := .type "slice", data := .fields #[vl, vu, vs] } } := I4.kept (t' := s4.toks) fun b ob q => Heap.get?_push_of_some _ q
  rcases q1 with ⟨a, xs, ex, hx, q⟩ | ⟨z, ex, hz, q⟩
  · subst ex
    cases r1
    obtain ⟨its, r, ht, hz⟩ := I5.tuple hx
    have hlen := r.length
    refine PyProof.Rows.tail_any (ops := [.ref a, .ref s4.heap.objs.size]) ht.typeIs PyProof.Rows.slot_tuple_getitem.lookup ?_ (by with_unfolding_all rfl)
    refine getItem_tuple_turn ht (Heap.IsSliceOf.new _ vl vu vs) pl pu ps (by rw [List.size_toArray]; omega) ?_
    refine ⟨.ref _, _, I5.laid (t' := s4.toks) (o := .tup xs.reverse) (fun b ob q => Heap.get?_push_of_some _ q) (Nat.le_refl _) ?_, rfl, q _ (I5.hok.fresh (Nat.le_refl _))⟩
    exact ⟨by rw [List.length_reverse]; exact hz, _, r.reverse, IsTup.new _ _⟩
  · subst ex
    obtain ⟨t, rfl⟩ := r1
    have hsl : ({ s4 with heap := s4.heap.push { cls := .type "slice", data := .fields #[vl, vu, vs] } } : Shared).heap.IsSliceOf s4.heap.objs.size vl vu vs := Heap.IsSliceOf.new _ vl vu vs
    obtain ⟨lo, rfl, e1⟩ := IsPart.raw pl
    obtain ⟨hi, rfl, e2⟩ := IsPart.raw pu
    obtain ⟨st, rfl, e3⟩ := IsPart.raw ps
    obtain ⟨ob, g1, g2, g3⟩ := hsl
    have n1 : lo = none := by cases lo with | none => rfl | some _ => cases e1
    have n2 : hi = none := by cases hi with | none => rfl | some _ => cases e2
    obtain ⟨t3, rfl⟩ : ∃ t3, st = some (-1, t3) := by
      cases st with
      | none => cases e3
      | some p =>
        obtain ⟨c, t3⟩ := p
        have e4 : c = -1 := by simpa using e3
        exact ⟨t3, by rw [e4]⟩
    subst n1 n2
    refine PyProof.Rows.tail_any (ops := [.str z t, .ref s4.heap.objs.size]) (typeIs_str _ _ _) F.slot_str_getitem.lookup ?_ (by with_unfolding_all rfl)
    refine wpAny_getItem_str_slice (l := none) (u := none) (st := some (-1, t3)) ⟨ob, g1, g2, g3⟩ rfl ?_
    have hpick : (slicePicked z none none (some (-1, t3))).filterMap (z.cps[·]?) = z.cps.toList.reverse := by
      have e : slicePicked z none none (some (-1, t3)) = (List.range z.cps.size).map fun j => z.cps.size - 1 - j := PySem.W.krv_sliceRange z.cps.size
      rw [e, PySem.W.krv_range, List.filterMap_reverse, PySem.W.krv_all]
    unfold sliceMade
    rw [if_neg (by simp), hpick]
    have hl : (⟨z.cps.toList.reverse.toArray⟩ : Str).length ≤ sizeLine := by
      show z.cps.toList.reverse.toArray.size ≤ sizeLine
      rw [List.size_toArray, List.length_reverse, Array.length_toList]
      exact Nat.le_trans hz (by decide)
    exact ⟨hl, .str ⟨z.cps.toList.reverse.toArray⟩, H4, I5.tok _, ⟨_, rfl⟩, q _ (by simp)⟩
/-- a text twice -/
def rTwice : R2 := fun x y H Q => ∃ z : Str, x = .str z ∧ y = .int 2 ∧ z.length ≤ 100000 ∧ ∀ z2 : Str, z2.cps.toList = z.cps.toList ++ z.cps.toList → Q (.str z2) H
theorem op_twice : OpR X (binaryOp .Mult) rTwice := by
  intro pins s σ H x y v u Q I rx ry h
  obtain ⟨z, rfl, rfl, hz, q⟩ := h
  obtain ⟨t, rfl⟩ := rx
  obtain ⟨t2, rfl⟩ := ry
  have zl : z.length = z.cps.size := rfl
  refine PySem.P.mul_str (by decide) (fun _ _ => by omega) (fun _ _ => ?_) ?_
  · show decide (z.length * (2 : Int).toNat > sizeLine) = false
    have h2 : (2 : Int).toNat = 2 := rfl
    rw [h2, sizeLine_eq]
    exact decide_eq_false (by omega)
  · rw [if_neg (by decide)]
    by_cases h0 : ((2 : Int) == 1 || z.length == 0) = true
    · rw [if_pos h0]
      have e0 : z.cps.toList = [] := by
        have h1 : z.length = 0 := by simpa using h0
        exact List.eq_nil_of_length_eq_zero (by rw [Array.length_toList, ← zl, h1])
      exact ⟨.str z, H, I, ⟨_, rfl⟩, q z (by rw [e0]; rfl)⟩
    · rw [if_neg h0]
      have e : (List.replicate (2 : Int).toNat z.cps).foldl (· ++ ·) #[] = z.cps ++ z.cps := by
        show (#[] ++ z.cps) ++ z.cps = z.cps ++ z.cps
        rw [Array.empty_append]
      rw [e]
      have hl : (⟨z.cps ++ z.cps⟩ : Str).length ≤ sizeLine := by
        show (z.cps ++ z.cps).size ≤ sizeLine
        rw [Array.size_append, sizeLine_eq]
        omega
      exact ⟨hl, .str ⟨z.cps ++ z.cps⟩, H, I.tok _, ⟨_, rfl⟩, q _ (by simp)⟩
end
end SG

/-! remove of pairs of whole numbers; the set of a tuple of whole numbers. -/
namespace SG
open PySem PySem.Spec PyProof.Rows L2
section
variable {X : Cx}
def pairD (q : Int × Int) : PyData := .tuple [.int q.1, .int q.2]
theorem pairD_plain (q : Int × Int) : (pairD q).plain = true := by simp [pairD, PyData.plain, PyData.plainAll]
theorem pairsD_plain : ∀ qs : List (Int × Int), PyData.plainAll (qs.map pairD) = true
  | [] => by simp [PyData.plainAll]
  | q :: qs => by simp [PyData.plainAll, pairD_plain q, pairsD_plain qs]
theorem pairD_eqv (p q : Int × Int) : PyData.eqv (pairD p) (pairD q) = (p == q) := by
  obtain ⟨a, b⟩ := p
  obtain ⟨c, e⟩ := q
  have h : ((a, b) == (c, e)) = ((a == c) && (b == e)) := rfl
  rw [h]
  simp [pairD, PyData.eqv, PyData.eqvAll]
/-- the objects ys are the pairs qs -/
def Prs (K : PySem.W.Frag) (H : Hp) (ys : List V) (qs : List (Int × Int)) : Prop := Paired (fun (y : V) (q : Int × Int) => ∃ t, y = .ref t ∧ SqT K H t [.int q.1, .int q.2]) ys qs
theorem prs_dp {K : PySem.W.Frag} {H : Hp} : ∀ {ys : List V} {qs : List (Int × Int)}, Prs K H ys qs → DpAll K H ys (qs.map pairD)
  | _, _, .nil => .nil
  | _, _, .cons ⟨t, e, h⟩ r => by
    subst e
    exact .cons (.tup h (.cons (.int _) (.cons (.int _) .nil))) (prs_dp r)
theorem pairs_depth : ∀ qs : List (Int × Int), PyData.depthAll (qs.map pairD) ≤ 1
  | [] => by simp [PyData.depthAll]
  | q :: qs => by
    have := pairs_depth qs
    simp only [List.map_cons, PyData.depthAll, pairD, PyData.depth]
    omega
theorem place_of {qs : List (Int × Int)} {q : Int × Int} {j : Nat} (h : qs.findIdx? (· == q) = some j) : SeqAt.dataPlace (qs.map pairD) (pairD q) = some j := by
  unfold SeqAt.dataPlace
  rw [List.findIdx?_map]
  have e : ((fun y => PyData.eqv y (pairD q)) ∘ pairD) = fun p => p == q := funext fun p => pairD_eqv p q
  rw [e]
  exact h
def rRemP (K : PySem.W.Frag) : V → List V → Hp → VK → Prop := fun x xs H Q => ∃ (l t : Addr) (ys : List V) (qs : List (Int × Int)) (q : Int × Int) (j : Nat), x = .ref l ∧ xs = [.ref t] ∧ H l = some (.lst ys) ∧ Prs K H ys qs ∧ SqT K H t [.int q.1, .int q.2] ∧
  qs.findIdx? (· == q) = some j ∧ Q .non (upd H l (.lst (ys.eraseIdx j)))
theorem len_cut {α : Type} (xs : List α) (j : Nat) : (xs.eraseIdx j).length ≤ xs.length := List.length_eraseIdx_le ..
theorem mt_removeP (hu : X.A.units + 64 < cLine) : MtM X "list.remove" (rRemP X.K) := by
  intro pins s σ H x xs v us Q I rx rxs h
  obtain ⟨l, t, ys, qs, q, j, rfl, rfl, hH, hp, ht, hj, k⟩ := h
  cases rx
  obtain ⟨u, rfl, ru⟩ := rxs.one
  obtain rfl : u = Value.ref t := ru
  obtain ⟨z, its, n, r, hl, e⟩ := I.lstM hH
  obtain ⟨as, ra⟩ := Dp.readsAll I _ _ its (prs_dp hp) r
  obtain ⟨bs, rb⟩ := Dp.reads I (pairD q) (.ref t) (.ref t) (.tup ht (.cons (.int _) (.cons (.int _) .nil))) rfl
  have hd : (pairD q).depth = 1 := by simp [pairD, PyData.depth, PyData.depthAll]
  have hm := Nat.min_le_right (PyData.depthAll (qs.map pairD)) (pairD q).depth
  refine SeqAt.remove_list_data (vs := its.toArray) ⟨_, e, rfl, n, rfl⟩ (by simpa using ra) rb (pairsD_plain qs) (pairD_plain q) (by omega) (place_of hj) (by rw [List.size_toArray]; omega) ?_
  refine ⟨.non, _, I.lset (its' := its.eraseIdx j) (t' := s.toks) hH e ?_ (r.eraseIdx j) ?_, rfl, k⟩
  · show its.toArray.eraseIdxIfInBounds j = (its.eraseIdx j).toArray
    rw [List.eraseIdxIfInBounds_toArray]
  · exact Nat.le_trans (len_cut ys j) z
/-- the set of a tuple's whole numbers -/
def rSetOfI (K : PySem.W.Frag) (w : World) : List V → Hp → VK → Prop := fun vs H Q => ∃ (p : Addr) (ns : List Int), vs = [.ref p] ∧ SqT K H p (ns.map V.int) ∧ ns.length ≤ 1000 ∧ ∀ (a : Addr) (n : Nat), H a = none → n ≤ ns.length → Q (.ref a) (upd H a (SetO w a (fun j => decide (j ∈ ns)) n))
theorem cr_setOfI (hc : X.calm = true) : CallR X (.type "set") (rSetOfI X.K X.w) := by
  intro pins s σ H vs us Q I rv h
  obtain ⟨p, ns, rfl, hp, hl, k⟩ := h
  obtain ⟨u, rfl, ru⟩ := rv.one
  obtain rfl : u = Value.ref p := ru
  obtain ⟨its, r, pt, hz⟩ := I.tuple hp
  have hi : IntsAre its.toArray.toList ns := ints_of_vals r
  refine call_set_tupI ns (I.ok.hd hc) (show s.heap.IsTuple p its.toArray from pt) hi (by unfold scanBound; omega) fun h' tk c R1 hcn kp => ?_
  exact ⟨.ref _, _, I.laid (t' := tk) (o := SetO X.w s.heap.objs.size (fun j => decide (j ∈ ns)) c) kp (Nat.le_refl _) (setO_new R1), rfl, k _ c (I.hok.fresh (Nat.le_refl _)) hcn⟩
theorem k_setOfI {K : PySem.W.Frag} {w : World} (hc : X.calm = true) (e : X.K = K := by rfl) (ew : X.w = w := by rfl) : CallR X (.type "set") (rSetOfI K w) := e ▸ ew ▸ cr_setOfI hc
theorem k_removeP {K : PySem.W.Frag} (hu : X.A.units + 64 < cLine) (e : X.K = K := by rfl) : MtM X "list.remove" (rRemP K) := e ▸ mt_removeP hu
end
end SG

/-! The deck of G4, by the names of the later texts. -/
namespace SG
open PySem PySem.Spec PyProof.Rows L2
abbrev Dek (H : Hp) (d l : Addr) (c : Nat) : Prop := Deck H d l c
theorem Dek.mono {H : Hp} {d l : Addr} {c e : Nat} (D : Dek H d l c) (h : c ≤ e) : Dek H d l e := Deck.mono D h
theorem Dek.same {H H1 : Hp} {d l : Addr} {c : Nat} (D : Dek H d l c) (s : Same H H1) : Dek H1 d l c := Deck.same D s
theorem Dek.upd {H : Hp} {d l p : Addr} {c : Nat} {o : HO} (D : Dek H d l c) (hp : H p = none) : Dek (upd H p o) d l c := Deck.upd D hp
theorem Dek.ne {H : Hp} {d l p : Addr} {c : Nat} (D : Dek H d l c) (h : H p = none) : p ≠ d ∧ p ≠ l := Deck.ne D h
theorem Kept.tupG {K : PySem.W.Frag} {d l : Addr} {H H2 : Hp} {c : Nat} {a : Addr} {xs : List V} (k : Kept d l H H2) (D : Dek H d l c) (h : SqT K H a xs) : SqT K H2 a xs := k.tup D h
theorem Kept.lstG {K : PySem.W.Frag} {d l : Addr} {H H2 : Hp} {c : Nat} {a : Addr} {xs : List V} (k : Kept d l H H2) (D : Dek H d l c) (hl : a ≠ l) (h : SqL K H a xs) : SqL K H2 a xs := k.lst D hl h
/-- a list of values that are drawn, turn by turn -/
theorem lc_drawsG {d l D : Addr} {c n s : Nat} {te : TE} {σ : L2.St} {H1 : Hp} {Qd : Hp → Prop} {B : V → Prop} (D0 : Dek H1 d l c) (hD : H1 D = none) (hn : n ≤ 1000)
    (turn : ∀ (i : Nat) (H2 : Hp), i < n → Dek H2 d l (c + i) → Kept d l H1 H2 → ∀ R : VK, (∀ (x : V) (H3 : Hp), B x → Dek H3 d l (c + i + 1) → Kept d l H2 H3 → R x H3) → te ((wipe σ [s]).set s (some (.int (0 + i)))) H2 R)
    (done : ∀ (xs : List V) (H2 : Hp), xs.length = n → (∀ x ∈ xs, B x) → H2 D = some (.lst xs) → Dek H2 d l (c + n) → Kept d l H1 H2 → Qd H2) :
    ∃ W : Nat → Nat → Hp → Prop, (∃ m, W 0 m (upd H1 D (.lst []))) ∧ ∀ i m H, W i m H →
      ((Itr 0 n).stop i H ∧ Qd H) ∨ ((Itr 0 n).go i H ∧ ∃ Nx : Hp → Prop, (∀ H2, Nx H2 → ∃ m2, m2 < m ∧ W (i + 1) m2 H2) ∧ ∀ x H2, (Itr 0 n).yld i H x H2 → gName s x (wipe σ [s]) H2 fun σ2 H3 => wipe σ2 [s] = wipe σ [s] ∧ tYes σ2 H3 fun b H4 =>
        if b = true then te σ2 H4 fun y H5 => ∃ acc, H5 D = some (.lst acc) ∧ acc.length < sizeLine ∧ Nx (upd H5 D (.lst (acc ++ [y]))) else Nx H4) := by
  obtain ⟨nd, nl⟩ := D0.ne hD
  refine lc_range (fun i H2 => ∃ xs : List V, xs.length = i ∧ (∀ x ∈ xs, B x) ∧ H2 D = some (.lst xs) ∧ Dek H2 d l (c + i) ∧ Kept d l H1 H2) ?_ ?_ ?_
  · exact ⟨[], rfl, (fun _ h => absurd h List.not_mem_nil), upd_same, D0.upd hD, .of (same_new hD)⟩
  · rintro i H2 hi ⟨xs, hx, hB, hD2, D2, k2⟩
    refine ⟨wipe1 _ _ _, ?_⟩
    refine yesI ?_
    refine turn i H2 hi D2 k2 _ fun x H3 hb D3 k3 => ⟨xs, k3 _ _ hD2 nd nl, ?_, xs ++ [x], by simp [hx], fun y hy => ?_, upd_same, ?_, ?_⟩
    · rw [hx]
      exact small1000 (by omega)
    · rcases List.mem_append.mp hy with h | h
      · exact hB y h
      · rw [List.mem_singleton.mp h]; exact hb
    · obtain ⟨cs, m, k, h1, h2, h3⟩ := D3
      exact ⟨cs, m, k, by rw [upd_ne nd.symm]; exact h1, by rw [upd_ne nl.symm]; exact h2, h3⟩
    · intro b o e h1 h2
      rw [upd_ne (ne_of_none e hD)]
      exact k3 _ _ (k2 _ _ e h1 h2) h1 h2
  · rintro H2 ⟨xs, hx, hB, hD2, D2, k2⟩
    exact done xs H2 hx hB hD2 D2 k2

/-! ### comprehensions that make new objects alone -/
/-- all but lists stays -/
def Tups (H H' : Hp) : Prop := ∀ b o, H b = some o → (∀ zs, o ≠ .lst zs) → H' b = some o
theorem Tups.of {H H' : Hp} (s : Same H H') : Tups H H' := fun b o e _ => s b o e
theorem lc_same {J : It} {n : Nat} {G : Hp → Prop} {Y : Nat → Hp → V → Hp → Prop} (w : Walk J n G Y) {g : TG} {tt : TT} {te : TE} {vs : List Nat} {σ : L2.St} {H1 : Hp} {D : Addr} {Qd : Hp → Prop} (hn : n ≤ 1000) (hD : H1 D = none)
    (A : Nat → List V → Hp → Prop) (A0 : A 0 [] H1) (Am : ∀ i acc H H', Tups H H' → A i acc H → A i acc H') (hG : ∀ H, Same H1 H → G H)
    (turn : ∀ (i : Nat) (x : V) (acc : List V) (H2 H3 : Hp), i < n → Same H1 H2 → A i acc H2 → Y i H2 x H3 → ∀ (R : VK) (N : Hp → Prop), (∀ y H6, Same H2 H6 → A (i + 1) (acc ++ [y]) H6 → R y H6) → (∀ H6, Same H2 H6 → A (i + 1) acc H6 → N H6) →
      g x (wipe σ vs) H3 fun σ2 H4 => wipe σ2 vs = wipe σ vs ∧ tt σ2 H4 fun b H5 => if b = true then te σ2 H5 R else N H5)
    (done : ∀ (acc : List V) (H2 : Hp), Same H1 H2 → acc.length ≤ n → H2 D = some (.lst acc) → A n acc H2 → Qd H2) :
    ∃ W : Nat → Nat → Hp → Prop, (∃ m, W 0 m (upd H1 D (.lst []))) ∧ ∀ i m H, W i m H →
      (J.stop i H ∧ Qd H) ∨ (J.go i H ∧ ∃ Nx : Hp → Prop, (∀ H', Nx H' → ∃ m', m' < m ∧ W (i + 1) m' H') ∧ ∀ x H', J.yld i H x H' → g x (wipe σ vs) H' fun σ2 H2 => wipe σ2 vs = wipe σ vs ∧ tt σ2 H2 fun b H3 =>
        if b = true then te σ2 H3 fun y H4 => ∃ acc, H4 D = some (.lst acc) ∧ acc.length < sizeLine ∧ Nx (upd H4 D (.lst (acc ++ [y]))) else Nx H3) := by
  refine lc_it w (fun i H => Same H1 H ∧ ∃ acc, H D = some (.lst acc) ∧ acc.length ≤ i ∧ A i acc H) ⟨same_new hD, [], upd_same, Nat.le_refl _, Am _ _ _ _ (.of (same_new hD)) A0⟩ (fun i H _ q => hG H q.1) ?_ ?_
  · rintro i x H H' hi ⟨s, acc, hA, hl, a⟩ hy
    refine turn i x acc H H' hi s a hy _ _ (fun y H6 s6 a6 => ⟨acc, s6 _ _ hA, small1000 (by omega), same_upd_of (s.trans s6) hD, acc ++ [y], upd_same, by rw [List.length_append]; simpa using hl, Am _ _ _ _ ?_ a6⟩) fun H6 s6 a6 => ⟨s.trans s6, acc, s6 _ _ hA, by omega, a6⟩
    intro b o e nl
    have hb : b ≠ D := fun z => nl acc (Option.some.inj (e.symm.trans (by rw [z]; exact s6 _ _ hA)))
    rw [upd_ne hb]
    exact e
  · rintro H ⟨s, acc, hA, hl, a⟩
    exact done acc H s hl hA a
end SG

/-! Small data in which empty dicts stand; it stays while the deck is drawn from. -/
namespace SG
open PySem PySem.Spec PyProof.Rows L2
mutual
/-- whole numbers to m either way, plain texts of at most t signs, no dict but empty ones -/
def fitD (m t : Nat) : PyData → Bool
  | .int i => decide (i.natAbs ≤ m)
  | .str z => z.cps.toList.all (fun c => decide (c < 128)) && decide (z.length ≤ t)
  | .list xs => fitA m t xs
  | .tuple xs => fitA m t xs
  | .dict kvs => kvs.isEmpty
  | .none => true
  | .bool _ => true
def fitA (m t : Nat) : List PyData → Bool
  | [] => true
  | x :: xs => fitD m t x && fitA m t xs
end
mutual
theorem fit_told {m t : Nat} (hm : m < 10 ^ 4300) : ∀ D : PyData, fitD m t D = true → tellE D = true ∧ D.leavesShort 4302 = true
  | .int i, h => by
    have h : i.natAbs ≤ m := of_decide_eq_true (by simpa only [fitD] using h)
    have hi : i.natAbs < 10 ^ 4300 := Nat.lt_of_le_of_lt h hm
    exact ⟨by simp only [tellE]; exact decide_eq_true hi, (OkD.int hi).short⟩
  | .str z, h => by
    have h := h
    simp only [fitD, Bool.and_eq_true, List.all_eq_true, decide_eq_true_eq] at h
    refine ⟨by simp [tellE], ?_⟩
    simp only [PyData.leavesShort, List.all_eq_true, decide_eq_true_eq]
    exact fun c hc => Nat.lt_of_lt_of_le (h.1 c hc) (by decide)
  | .list xs, h => by
    have z := fitA_told (t := t) hm xs (by simpa only [fitD] using h)
    exact ⟨by simpa only [tellE] using z.1, by simpa only [PyData.leavesShort] using z.2⟩
  | .tuple xs, h => by
    have z := fitA_told (t := t) hm xs (by simpa only [fitD] using h)
    exact ⟨by simpa only [tellE] using z.1, by simpa only [PyData.leavesShort] using z.2⟩
  | .dict [], _ => by simp [tellE, PyData.leavesShort, PyData.leavesShortKv]
  | .dict (_ :: _), h => by simp [fitD] at h
  | .none, _ => by simp [tellE, PyData.leavesShort]
  | .bool _, _ => by simp [tellE, PyData.leavesShort]
theorem fitA_told {m t : Nat} (hm : m < 10 ^ 4300) : ∀ ds : List PyData, fitA m t ds = true → tellEAll ds = true ∧ PyData.leavesShortAll 4302 ds = true
  | [], _ => by simp [tellEAll, PyData.leavesShortAll]
  | d :: ds, h => by
    have h2 : fitD m t d = true ∧ fitA m t ds = true := by simpa only [fitA, Bool.and_eq_true] using h
    have z1 := fit_told hm d h2.1
    have z2 := fitA_told hm ds h2.2
    simp only [tellEAll, PyData.leavesShortAll, z1.1, z1.2, z2.1, z2.2, Bool.and_self, and_self]
end
mutual
theorem fit_mono {m t m2 t2 : Nat} (h1 : m ≤ m2) (h2 : t ≤ t2) : ∀ D : PyData, fitD m t D = true → fitD m2 t2 D = true
  | .int i, h => by
    have h : i.natAbs ≤ m := of_decide_eq_true (by simpa only [fitD] using h)
    simp only [fitD]
    exact decide_eq_true (by omega)
  | .str z, h => by
    simp only [fitD, Bool.and_eq_true, decide_eq_true_eq] at h ⊢
    exact ⟨h.1, by omega⟩
  | .list xs, h => by
    simp only [fitD] at h ⊢
    exact fitA_mono h1 h2 xs h
  | .tuple xs, h => by
    simp only [fitD] at h ⊢
    exact fitA_mono h1 h2 xs h
  | .dict _, h => by simpa only [fitD] using h
  | .none, _ => by simp [fitD]
  | .bool _, _ => by simp [fitD]
theorem fitA_mono {m t m2 t2 : Nat} (h1 : m ≤ m2) (h2 : t ≤ t2) : ∀ ds : List PyData, fitA m t ds = true → fitA m2 t2 ds = true
  | [], _ => by simp [fitA]
  | d :: ds, h => by
    have h3 : fitD m t d = true ∧ fitA m t ds = true := by simpa only [fitA, Bool.and_eq_true] using h
    simp only [fitA, fit_mono h1 h2 d h3.1, fitA_mono h1 h2 ds h3.2, Bool.and_self]
end
theorem fitA_mem {m t : Nat} : ∀ {ds : List PyData}, fitA m t ds = true → ∀ d ∈ ds, fitD m t d = true
  | d :: ds, h, e, he => by
    have h3 : fitD m t d = true ∧ fitA m t ds = true := by simpa only [fitA, Bool.and_eq_true] using h
    rcases List.mem_cons.mp he with rfl | he
    · exact h3.1
    · exact fitA_mem h3.2 e he
theorem fitA_of {m t : Nat} : ∀ {ds : List PyData}, (∀ d ∈ ds, fitD m t d = true) → fitA m t ds = true
  | [], _ => by simp [fitA]
  | d :: ds, h => by simp only [fitA, h d List.mem_cons_self, fitA_of fun e he => h e (List.mem_cons_of_mem _ he), Bool.and_self]
theorem bulkA_app : ∀ (a b : List PyData), PyData.bulkAll (a ++ b) = PyData.bulkAll a + PyData.bulkAll b
  | [], b => by simp [PyData.bulkAll]
  | d :: a, b => by
    have := bulkA_app a b
    simp only [List.cons_append, PyData.bulkAll, this]
    omega
theorem bulkA_rev : ∀ a : List PyData, PyData.bulkAll a.reverse = PyData.bulkAll a
  | [] => rfl
  | d :: a => by
    have := bulkA_rev a
    rw [List.reverse_cons, bulkA_app, this]
    simp only [PyData.bulkAll]
    omega
theorem bulkA_take (a : List PyData) (n : Nat) : PyData.bulkAll (a.take n) ≤ PyData.bulkAll a := by
  have := bulkA_app (a.take n) (a.drop n)
  rw [List.take_append_drop] at this
  omega
theorem bulkA_drop (a : List PyData) (n : Nat) : PyData.bulkAll (a.drop n) ≤ PyData.bulkAll a := by
  have := bulkA_app (a.take n) (a.drop n)
  rw [List.take_append_drop] at this
  omega
theorem bulkA_mem : ∀ {a : List PyData} {d : PyData}, d ∈ a → d.bulk + 1 ≤ PyData.bulkAll a
  | e :: a, d, h => by
    simp only [PyData.bulkAll]
    rcases List.mem_cons.mp h with rfl | h
    · omega
    · have := bulkA_mem h
      omega
theorem bulkA_len : ∀ a : List PyData, a.length ≤ PyData.bulkAll a
  | [] => Nat.zero_le _
  | d :: a => by
    have := bulkA_len a
    simp only [PyData.bulkAll, List.length_cons]
    omega
theorem depthA_of {n : Nat} : ∀ {ds : List PyData}, (∀ d ∈ ds, d.depth ≤ n) → PyData.depthAll ds ≤ n
  | [], _ => by simp [PyData.depthAll]
  | d :: ds, h => by
    simp only [PyData.depthAll]
    exact Nat.max_le.mpr ⟨h d List.mem_cons_self, depthA_of fun e he => h e (List.mem_cons_of_mem _ he)⟩
/-- small: how deep, how much in all, how great its numbers, how long its texts -/
structure Sx (n b m t : Nat) (D : PyData) : Prop where
  dep : D.depth ≤ n
  bulk : D.bulk ≤ b
  fit : fitD m t D = true
structure SxA (n b m t : Nat) (ds : List PyData) : Prop where
  dep : ∀ d ∈ ds, d.depth ≤ n
  bulk : PyData.bulkAll ds ≤ b
  fit : ∀ d ∈ ds, fitD m t d = true
section
variable {n b m t n2 b2 m2 t2 : Nat} {D : PyData} {ds es : List PyData}
theorem Sx.mono (h : Sx n b m t D) (h1 : n ≤ n2) (h2 : b ≤ b2) (h3 : m ≤ m2) (h4 : t ≤ t2) : Sx n2 b2 m2 t2 D := ⟨Nat.le_trans h.dep h1, Nat.le_trans h.bulk h2, fit_mono h3 h4 _ h.fit⟩
theorem SxA.mono (h : SxA n b m t ds) (h1 : n ≤ n2) (h2 : b ≤ b2) (h3 : m ≤ m2) (h4 : t ≤ t2) : SxA n2 b2 m2 t2 ds := ⟨fun d hd => Nat.le_trans (h.dep d hd) h1, Nat.le_trans h.bulk h2, fun d hd => fit_mono h3 h4 _ (h.fit d hd)⟩
theorem SxA.tuple (h : SxA n b m t ds) : Sx (n + 1) b m t (.tuple ds) := ⟨by simp only [PyData.depth]; have := depthA_of h.dep; omega, by simpa only [PyData.bulk] using h.bulk, by simp only [fitD]; exact fitA_of h.fit⟩
theorem SxA.list (h : SxA n b m t ds) : Sx (n + 1) b m t (.list ds) := ⟨by simp only [PyData.depth]; have := depthA_of h.dep; omega, by simpa only [PyData.bulk] using h.bulk, by simp only [fitD]; exact fitA_of h.fit⟩
theorem Sx.items (h : Sx n b m t (.tuple ds)) : 1 ≤ n ∧ SxA (n - 1) b m t ds := by
  have h1 := h.dep
  simp only [PyData.depth] at h1
  refine ⟨by omega, fun d hd => ?_, by simpa only [PyData.bulk] using h.bulk, fitA_mem (by simpa only [fitD] using h.fit)⟩
  have := depth_mem hd
  omega
theorem SxA.nil : SxA n b m t [] := ⟨fun _ h => (nomatch h), by simp [PyData.bulkAll], fun _ h => (nomatch h)⟩
theorem SxA.app (h : SxA n b m t ds) (k : SxA n b2 m t es) : SxA n (b + b2) m t (ds ++ es) :=
  ⟨fun d hd => (List.mem_append.mp hd).elim (h.dep d) (k.dep d), by rw [bulkA_app]; have := h.bulk; have := k.bulk; omega, fun d hd => (List.mem_append.mp hd).elim (h.fit d) (k.fit d)⟩
theorem SxA.one (h : Sx n b m t D) : SxA n (b + 1) m t [D] := ⟨fun d hd => by rw [List.mem_singleton.mp hd]; exact h.dep, by simp only [PyData.bulkAll]; have := h.bulk; omega, fun d hd => by rw [List.mem_singleton.mp hd]; exact h.fit⟩
theorem SxA.take (h : SxA n b m t ds) (k : Nat) : SxA n b m t (ds.take k) := ⟨fun d hd => h.dep d (List.mem_of_mem_take hd), Nat.le_trans (bulkA_take _ _) h.bulk, fun d hd => h.fit d (List.mem_of_mem_take hd)⟩
theorem SxA.drop (h : SxA n b m t ds) (k : Nat) : SxA n b m t (ds.drop k) := ⟨fun d hd => h.dep d (List.mem_of_mem_drop hd), Nat.le_trans (bulkA_drop _ _) h.bulk, fun d hd => h.fit d (List.mem_of_mem_drop hd)⟩
theorem SxA.rev (h : SxA n b m t ds) : SxA n b m t ds.reverse := ⟨fun d hd => h.dep d (List.mem_reverse.mp hd), by rw [bulkA_rev]; exact h.bulk, fun d hd => h.fit d (List.mem_reverse.mp hd)⟩
theorem Sx.short (h : Sx n b m t D) (hb : b ≤ 3000) (hm : m < 10 ^ 4300) : D.shown.length ≤ sizeLine := by
  have z := PyData.shown_le_bulk 4302 (by decide) D (fit_told hm D h.fit).2
  have z2 : (4302 + 2) * D.bulk ≤ 4304 * 3000 := Nat.mul_le_mul (Nat.le_refl _) (Nat.le_trans h.bulk hb)
  rw [sizeLine_eq]
  omega
end
/-! ### what stays while the deck is drawn from -/
mutual
/-- v is the data D, held by no object of the deck -/
inductive Dy (K : PySem.W.Frag) (d l : Addr) (H : Hp) : V → PyData → Prop
  | non : Dy K d l H .non .none
  | bl (b : Bool) : Dy K d l H (.bl b) (.bool b)
  | int (i : Int) : Dy K d l H (.int i) (.int i)
  | str (z : Str) : Dy K d l H (.str z) (.str z)
  | lst {p : Addr} {xs : List V} {es : List PyData} (hq : H p = some (.lst xs)) (n1 : p ≠ d) (n2 : p ≠ l) (ha : DyAll K d l H xs es) : Dy K d l H (.ref p) (.list es)
  | tup {p : Addr} {xs : List V} {es : List PyData} (hq : SqT K H p xs) (ha : DyAll K d l H xs es) : Dy K d l H (.ref p) (.tuple es)
  | dct {p : Addr} (hp : H p = some (.dK [])) (n1 : p ≠ d) (n2 : p ≠ l) : Dy K d l H (.ref p) (.dict [])
inductive DyAll (K : PySem.W.Frag) (d l : Addr) (H : Hp) : List V → List PyData → Prop
  | nil : DyAll K d l H [] []
  | cons {x : V} {xs : List V} {e : PyData} {es : List PyData} (hx : Dy K d l H x e) (ht : DyAll K d l H xs es) : DyAll K d l H (x :: xs) (e :: es)
end
section
variable {K : PySem.W.Frag} {d l : Addr} {c : Nat} {H H2 : Hp}
mutual
theorem dy_dx : ∀ {x : V} {D : PyData}, Dy K d l H x D → Dx K H x D
  | _, _, .non => .non
  | _, _, .bl b => .bl b
  | _, _, .int i => .int i
  | _, _, .str t => .str t
  | _, _, .lst q _ _ a => .lst (SqL.of q) (dyA_dx a)
  | _, _, .tup q a => .tup q (dyA_dx a)
  | _, _, .dct h _ _ => .dct h
theorem dyA_dx : ∀ {xs : List V} {ds : List PyData}, DyAll K d l H xs ds → DxAll K H xs ds
  | _, _, .nil => .nil
  | _, _, .cons a b => .cons (dy_dx a) (dyA_dx b)
end
mutual
theorem dy_kept (Dk : Dek H d l c) (k : Kept d l H H2) : ∀ {x : V} {D : PyData}, Dy K d l H x D → Dy K d l H2 x D
  | _, _, .non => .non
  | _, _, .bl b => .bl b
  | _, _, .int i => .int i
  | _, _, .str t => .str t
  | _, _, .lst q n1 n2 a => .lst (k _ _ q n1 n2) n1 n2 (dyA_kept Dk k a)
  | _, _, .tup q a => .tup (k.tupG Dk q) (dyA_kept Dk k a)
  | _, _, .dct h n1 n2 => .dct (k _ _ h n1 n2) n1 n2
theorem dyA_kept (Dk : Dek H d l c) (k : Kept d l H H2) : ∀ {xs : List V} {ds : List PyData}, DyAll K d l H xs ds → DyAll K d l H2 xs ds
  | _, _, .nil => .nil
  | _, _, .cons a b => .cons (dy_kept Dk k a) (dyA_kept Dk k b)
end
mutual
theorem dy_same (s : Same H H2) : ∀ {x : V} {D : PyData}, Dy K d l H x D → Dy K d l H2 x D
  | _, _, .non => .non
  | _, _, .bl b => .bl b
  | _, _, .int i => .int i
  | _, _, .str t => .str t
  | _, _, .lst q n1 n2 a => .lst (s _ _ q) n1 n2 (dyA_same s a)
  | _, _, .tup q a => .tup (sameT s q) (dyA_same s a)
  | _, _, .dct h n1 n2 => .dct (s _ _ h) n1 n2
theorem dyA_same (s : Same H H2) : ∀ {xs : List V} {ds : List PyData}, DyAll K d l H xs ds → DyAll K d l H2 xs ds
  | _, _, .nil => .nil
  | _, _, .cons a b => .cons (dy_same s a) (dyA_same s b)
end
theorem dyA_len : ∀ {xs : List V} {ds : List PyData}, DyAll K d l H xs ds → xs.length = ds.length
  | _, _, .nil => rfl
  | _, _, .cons _ b => congrArg (· + 1) (dyA_len b)
theorem dyA_get : ∀ {xs : List V} {ds : List PyData} {i : Nat} {x : V}, DyAll K d l H xs ds → xs[i]? = some x → ∃ D, ds[i]? = some D ∧ Dy K d l H x D
  | _, _, _, _, .nil, e => by simp at e
  | _, _, 0, _, .cons a b, e => by
    simp at e
    subst e
    exact ⟨_, rfl, a⟩
  | _, _, i + 1, x, .cons a b, e => by
    obtain ⟨D, h1, h2⟩ := dyA_get (i := i) (x := x) b (by simpa using e)
    exact ⟨D, by simpa using h1, h2⟩
theorem dyA_app : ∀ {xs ys : List V} {ds es : List PyData}, DyAll K d l H xs ds → DyAll K d l H ys es → DyAll K d l H (xs ++ ys) (ds ++ es)
  | _, _, _, _, .nil, h => h
  | _, _, _, _, .cons a b, h => .cons a (dyA_app b h)
theorem dyA_take : ∀ {xs : List V} {ds : List PyData} (n : Nat), DyAll K d l H xs ds → DyAll K d l H (xs.take n) (ds.take n)
  | _, _, 0, _ => .nil
  | _, _, _ + 1, .nil => .nil
  | _, _, n + 1, .cons a b => .cons a (dyA_take n b)
theorem dyA_drop : ∀ {xs : List V} {ds : List PyData} (n : Nat), DyAll K d l H xs ds → DyAll K d l H (xs.drop n) (ds.drop n)
  | _, _, 0, h => h
  | _, _, _ + 1, .nil => .nil
  | _, _, n + 1, .cons a b => dyA_drop n b
theorem dyA_rev : ∀ {xs : List V} {ds : List PyData}, DyAll K d l H xs ds → DyAll K d l H xs.reverse ds.reverse
  | _, _, .nil => .nil
  | _, _, .cons a b => by
    rw [List.reverse_cons, List.reverse_cons]
    exact dyA_app (dyA_rev b) (.cons a .nil)
theorem dyA_ints : ∀ ns : List Int, DyAll K d l H (ns.map V.int) (dI ns)
  | [] => .nil
  | n :: ns => .cons (.int n) (dyA_ints ns)
theorem dy_tuple {x : V} {ds : List PyData} (h : Dy K d l H x (.tuple ds)) : ∃ a xs, x = .ref a ∧ SqT K H a xs ∧ DyAll K d l H xs ds := by
  cases h with
  | tup q a => exact ⟨_, _, rfl, q, a⟩
/-- a part cut out -/
theorem dyA_cut {xs : List V} {ds : List PyData} (h : DyAll K d l H xs ds) {n b m t : Nat} (s : SxA n b m t ds) (lo hi : Option Int) : ∃ es, DyAll K d l H (cutV xs lo hi) es ∧ SxA n b m t es :=
  ⟨_, dyA_take _ (dyA_drop _ h), (s.drop _).take _⟩
end
end SG

/-! Readings of literals and parts that give small data, while a deck stands. -/
namespace SG
open PySem PySem.Spec PyProof.Rows L2
/-! ### plain texts -/
def Asc (z : Str) : Prop := ∀ c ∈ z.cps.toList, c < 128
theorem Sx.str {n b m t : Nat} {z : Str} (h : Asc z) (h1 : z.length ≤ t) (h2 : z.length ≤ b) : Sx n b m t (.str z) :=
  ⟨by simp [PyData.depth], by simp only [PyData.bulk]; exact h2, by simp only [fitD, Bool.and_eq_true, List.all_eq_true, decide_eq_true_eq]; exact ⟨h, h1⟩⟩
theorem Sx.int {n b m t : Nat} {i : Int} (h : i.natAbs ≤ m) : Sx n b m t (.int i) := ⟨by simp [PyData.depth], by simp [PyData.bulk], by simp only [fitD]; exact decide_eq_true h⟩
theorem Sx.bool {n b m t : Nat} (k : Bool) : Sx n b m t (.bool k) := ⟨by simp [PyData.depth], by simp [PyData.bulk], by simp [fitD]⟩
theorem Sx.none {n b m t : Nat} : Sx n b m t .none := ⟨by simp [PyData.depth], by simp [PyData.bulk], by simp [fitD]⟩
theorem Sx.dict0 {n b m t : Nat} (hn : 1 ≤ n) : Sx n b m t (.dict []) := ⟨by simp only [PyData.depth, PyData.depthKv]; omega, by simp [PyData.bulk, PyData.bulkKv], by simp [fitD]⟩
theorem Sx.asc {n b m t : Nat} {z : Str} (h : Sx n b m t (.str z)) : Asc z ∧ z.length ≤ t ∧ z.length ≤ b := by
  have f := h.fit
  have k := h.bulk
  simp only [fitD, Bool.and_eq_true, List.all_eq_true, decide_eq_true_eq] at f
  simp only [PyData.bulk] at k
  exact ⟨f.1, f.2, k⟩
theorem asc_cat {a b : Str} (ha : Asc a) (hb : Asc b) : Asc (a ++ b) := fun c hc => by
  have e : (a ++ b).cps.toList = a.cps.toList ++ b.cps.toList := TL.tl_append a b
  rw [e] at hc
  exact (List.mem_append.mp hc).elim (ha c) (hb c)
theorem len_cat (a b : Str) : (a ++ b).length = a.length + b.length := by
  have e : (a ++ b).cps.toList = a.cps.toList ++ b.cps.toList := TL.tl_append a b
  have := congrArg List.length e
  rw [List.length_append] at this
  simpa [Str.length] using this
theorem asc_upper1 : ∀ c, c < 128 → (Unicode.upperOf c).all (fun e => decide (e < 128)) = true ∧ (Unicode.upperOf c).length = 1 := by decide +kernel
theorem upper_list (z : Str) : (Txt.upper z).cps.toList = z.cps.toList.flatMap Unicode.upperOf := by
  unfold Txt.upper placed
  show ((z.cps.mapIdx fun _ c => (Unicode.upperOf c).toArray).flatten).toList = _
  rw [Array.toList_flatten, Array.toList_mapIdx]
  have e : (z.cps.toList.mapIdx fun _ c => (Unicode.upperOf c).toArray) = z.cps.toList.map fun c => (Unicode.upperOf c).toArray := by
    refine List.ext_getElem (by simp) fun i h1 h2 => by simp
  rw [e, List.map_map]
  rfl
theorem asc_upper {z : Str} (h : Asc z) : Asc (Txt.upper z) ∧ (Txt.upper z).length = z.length := by
  have e := upper_list z
  constructor
  · intro c hc
    rw [e] at hc
    obtain ⟨x, hx, hc⟩ := List.mem_flatMap.mp hc
    have := List.all_eq_true.mp (asc_upper1 x (h x hx)).1 c hc
    exact of_decide_eq_true this
  · have l := congrArg List.length e
    have k : ∀ xs : List Nat, (∀ c ∈ xs, c < 128) → (xs.flatMap Unicode.upperOf).length = xs.length := by
      intro xs
      induction xs with
      | nil => intro _; rfl
      | cons a r ih =>
        intro hh
        rw [List.flatMap_cons, List.length_append, ih fun c hc => hh c (List.mem_cons_of_mem _ hc), (asc_upper1 a (hh a List.mem_cons_self)).2, List.length_cons]
        omega
    rw [k _ h] at l
    simpa [Str.length] using l
theorem cut_mem {z : Str} (lo hi : Option Int) (h : Asc z) : Asc (cutS z lo hi) ∧ (cutS z lo hi).length ≤ z.length := by
  refine ⟨fun c hc => ?_, cutS_length z lo hi⟩
  refine h c ?_
  have hc2 : c ∈ ((z.cps.toList.drop (HT.sIx z.length 0 lo)).take (HT.sIx z.length z.length hi - HT.sIx z.length 0 lo)).toArray.toList := hc
  exact List.mem_of_mem_drop (List.mem_of_mem_take hc2)
theorem num_asc (D : PyData) : Asc (numT D) := by
  have hi : ∀ i : Int, Asc (Str.ofString (toString i)) := by
    intro i c hc
    rw [signs_ofString] at hc
    obtain ⟨ch, h1, rfl⟩ := List.mem_map.mp hc
    rcases int_sign i ch h1 with h | rfl
    · have := digit_range h
      omega
    · decide
  have hx : ∀ c ∈ ("" : Str).cps.toList, c < 128 := by decide +kernel
  cases D with
  | int i => exact hi i
  | bool k => cases k <;> (show ∀ c ∈ _, _) <;> decide +kernel
  | none => exact hx
  | str _ => exact hx
  | list _ => exact hx
  | tuple _ => exact hx
  | dict _ => exact hx
/-! ### readings -/
/-- x is small data, no object of the deck -/
def Itm (K : PySem.W.Frag) (d l : Addr) (n b m t : Nat) (H : Hp) (x : V) : Prop := ∃ D, Dy K d l H x D ∧ Sx n b m t D
theorem Itm.same {K : PySem.W.Frag} {d l : Addr} {n b m t : Nat} {H H2 : Hp} {x : V} (s : Same H H2) (h : Itm K d l n b m t H x) : Itm K d l n b m t H2 x := by
  obtain ⟨D, h1, h2⟩ := h
  exact ⟨D, dy_same s h1, h2⟩
theorem Itm.kept {K : PySem.W.Frag} {d l : Addr} {c n b m t : Nat} {H H2 : Hp} {x : V} (Dk : Dek H d l c) (k : Kept d l H H2) (h : Itm K d l n b m t H x) : Itm K d l n b m t H2 x := by
  obtain ⟨D, h1, h2⟩ := h
  exact ⟨D, dy_kept Dk k h1, h2⟩
theorem Itm.mono {K : PySem.W.Frag} {d l : Addr} {n b m t n2 b2 m2 t2 : Nat} {H : Hp} {x : V} (h : Itm K d l n b m t H x) (h1 : n ≤ n2) (h2 : b ≤ b2) (h3 : m ≤ m2) (h4 : t ≤ t2) : Itm K d l n2 b2 m2 t2 H x := by
  obtain ⟨D, e1, e2⟩ := h
  exact ⟨D, e1, e2.mono h1 h2 h3 h4⟩
section
variable {K : PySem.W.Frag} {d l : Addr} {c n b m t : Nat} {σ : L2.St} {H0 : Hp}
/-- te gives the data D -/
def WdE (K : PySem.W.Frag) (d l : Addr) (c : Nat) (σ : L2.St) (H0 : Hp) (te : TE) (D : PyData) : Prop := ∀ (H : Hp) (Q : VK), Same H0 H → Dek H d l c → (∀ x H2, Same H H2 → Dek H2 d l c → Dy K d l H2 x D → Q x H2) → te σ H Q
def WdA (K : PySem.W.Frag) (d l : Addr) (c : Nat) (σ : L2.St) (H0 : Hp) (ta : TA) (ds : List PyData) : Prop := ∀ (H : Hp) (Q : List V → Hp → Prop), Same H0 H → Dek H d l c → (∀ xs H2, Same H H2 → Dek H2 d l c → DyAll K d l H2 xs ds → Q xs H2) → ta σ H Q
/-- te gives small data -/
def WxE (K : PySem.W.Frag) (d l : Addr) (c n b m t : Nat) (σ : L2.St) (H0 : Hp) (te : TE) : Prop := ∀ (H : Hp) (Q : VK), Same H0 H → Dek H d l c → (∀ x H2, Same H H2 → Dek H2 d l c → Itm K d l n b m t H2 x → Q x H2) → te σ H Q
def WxA (K : PySem.W.Frag) (d l : Addr) (c n b m t : Nat) (σ : L2.St) (H0 : Hp) (ta : TA) (N : Nat) : Prop := ∀ (H : Hp) (Q : List V → Hp → Prop), Same H0 H → Dek H d l c → (∀ xs H2, Same H H2 → Dek H2 d l c → (∀ x ∈ xs, Itm K d l n b m t H2 x) → xs.length = N → Q xs H2) → ta σ H Q
theorem WdE.to {te : TE} {D : PyData} (a : WdE K d l c σ H0 te D) (s : Sx n b m t D) : WxE K d l c n b m t σ H0 te := fun H Q s0 dk q => a H Q s0 dk fun x H2 s2 dk2 h => q x H2 s2 dk2 ⟨D, h, s⟩
theorem WdE.v {i : Nat} {x : V} {D : PyData} (e : σ[i]? = some (some x)) (h : Dy K d l H0 x D) : WdE K d l c σ H0 (tVar i) D := fun H Q s dk q => ⟨x, e, q x H (Same.refl _) dk (dy_same s h)⟩
theorem WdE.con {v : V} {D : PyData} (h : ∀ H, Dy K d l H v D) : WdE K d l c σ H0 (tC v) D := fun H Q _ dk q => q v H (Same.refl _) dk (h H)
theorem WdE.non : WdE K d l c σ H0 (tC .non) .none := .con fun _ => .non
theorem WdE.bl {k : Bool} : WdE K d l c σ H0 (tC (.bl k)) (.bool k) := .con fun _ => .bl k
theorem WdE.int {i : Int} : WdE K d l c σ H0 (tC (.int i)) (.int i) := .con fun _ => .int i
theorem WdE.str {z : Str} : WdE K d l c σ H0 (tC (.str z)) (.str z) := .con fun _ => .str z
theorem WdE.neg {i : Int} : WdE K d l c σ H0 (tUn (rU fun j => V.int (-j)) (tC (.int i))) (.int (-i)) := fun H Q _ dk q => ⟨i, rfl, q _ H (Same.refl _) dk (.int _)⟩
theorem WdE.dct : WdE K d l c σ H0 tDNewK (.dict []) := fun H Q _ dk q p np => q (.ref p) _ (same_new np) (dk.upd np) (.dct upd_same (dk.ne np).1 (dk.ne np).2)
theorem WdA.nil : WdA K d l c σ H0 tNil [] := fun H Q _ dk q => q [] H (Same.refl _) dk .nil
theorem WdA.cons {te : TE} {ta : TA} {D : PyData} {ds : List PyData} (a : WdE K d l c σ H0 te D) (k : WdA K d l c σ H0 ta ds) : WdA K d l c σ H0 (tCons te ta) (D :: ds) := fun H Q s dk q =>
  a H _ s dk fun x H1 s1 dk1 h1 => k H1 _ (s.trans s1) dk1 fun xs H2 s2 dk2 h2 => q (x :: xs) H2 (s1.trans s2) dk2 (.cons (dy_same s2 h1) h2)
theorem WdE.tup {ta : TA} {ds : List PyData} (a : WdA K d l c σ H0 ta ds) (hl : ds.length ≤ 1000) : WdE K d l c σ H0 (tTup ta) (.tuple ds) := fun H Q s dk q =>
  a H _ s dk fun xs H1 s1 dk1 h1 => ⟨Nat.le_of_lt (small1000 (by rw [dyA_len h1]; exact hl)), fun p np => q (.ref p) _ (s1.trans (same_new np)) (dk1.upd np) (.tup (.inl (.inl upd_same)) (dyA_same (same_new np) h1))⟩
theorem WdE.lst {ta : TA} {ds : List PyData} (a : WdA K d l c σ H0 ta ds) (hl : ds.length ≤ 1000) : WdE K d l c σ H0 (tLst ta) (.list ds) := fun H Q s dk q =>
  a H _ s dk fun xs H1 s1 dk1 h1 => ⟨Nat.le_of_lt (small1000 (by rw [dyA_len h1]; exact hl)), fun p np => q (.ref p) _ (s1.trans (same_new np)) (dk1.upd np) (.lst upd_same (dk1.ne np).1 (dk1.ne np).2 (dyA_same (same_new np) h1))⟩
theorem WdE.listOf {te : TE} {ds : List PyData} (a : WdE K d l c σ H0 te (.tuple ds)) : WdE K d l c σ H0 (tCB (rListOf K) (tCons te tNil)) (.list ds) := fun H Q s dk q =>
  a H _ s dk fun x H1 s1 dk1 h1 => by
    obtain ⟨p, xs, rfl, hp, ha⟩ := dy_tuple h1
    exact ⟨p, xs, rfl, .inr hp, fun r nr => q (.ref r) _ (s1.trans (same_new nr)) (dk1.upd nr) (.lst upd_same (dk1.ne nr).1 (dk1.ne nr).2 (dyA_same (same_new nr) ha))⟩
theorem WdE.cat {t1 t2 : TE} {ds es : List PyData} (a : WdE K d l c σ H0 t1 (.tuple ds)) (k : WdE K d l c σ H0 t2 (.tuple es)) (hl : ds.length + es.length ≤ 1000) : WdE K d l c σ H0 (tOp (rCatU K) t1 t2) (.tuple (ds ++ es)) := fun H Q s dk q =>
  a H _ s dk fun x H1 s1 dk1 h1 => k H1 _ (s.trans s1) dk1 fun y H2 s2 dk2 h2 => by
    obtain ⟨p, xs, rfl, hp, ha⟩ := dy_tuple (dy_same s2 h1)
    obtain ⟨r, ys, rfl, hr, hb⟩ := dy_tuple h2
    have e1 := dyA_len ha
    have e2 := dyA_len hb
    exact ⟨p, r, xs, ys, rfl, rfl, hp, hr, Nat.le_of_lt (small1000 (by omega)), fun z H3 s3 h3 => q (.ref z) H3 ((s1.trans s2).trans s3) (dk2.same s3) (.tup h3 (dyA_same s3 (dyA_app ha hb)))⟩
/-- what a part of a list is -/
def cutD (ds : List PyData) (lo hi : Option Int) : List PyData := (ds.drop (HT.sIx ds.length 0 lo)).take (HT.sIx ds.length ds.length hi - HT.sIx ds.length 0 lo)
def Pt (σ : L2.St) (tp : TO) (o : Option Int) : Prop := ∀ (H : Hp) (Q : Option Int → Hp → Prop), Q o H → tp σ H Q
theorem Pt.no : Pt σ tNoPart none := fun _ _ q => q
theorem Pt.int {i : Int} : Pt σ (tPart (tC (.int i))) (some i) := fun _ _ q => ⟨i, rfl, q⟩
theorem Pt.neg {i : Int} : Pt σ (tPart (tUn (rU fun j => V.int (-j)) (tC (.int i)))) (some (-i)) := fun _ _ q => ⟨i, rfl, -i, rfl, q⟩
theorem Pt.var {i : Nat} {j : Int} (e : σ[i]? = some (some (.int j))) : Pt σ (tPart (tVar i)) (some j) := fun _ _ q => ⟨_, e, j, rfl, q⟩
theorem Pt.var1 {i : Nat} {j : Int} (e : σ[i]? = some (some (.int j))) : Pt σ (tPart (tOp (rI0 fun i j => V.int (i + j)) (tVar i) (tC (.int 1)))) (some (j + 1)) := fun _ _ q => ⟨_, e, _, _, rfl, rfl, j + 1, rfl, q⟩
theorem WdE.slc {te : TE} {lo hi : TO} {o1 o2 : Option Int} {ds : List PyData} (a : WdE K d l c σ H0 te (.tuple ds)) (h1 : Pt σ lo o1) (h2 : Pt σ hi o2) : WdE K d l c σ H0 (tSl (rSlU K) te lo hi) (.tuple (cutD ds o1 o2)) := fun H Q s dk q =>
  a H _ s dk fun x H1 s1 dk1 hx => h1 _ _ (h2 _ _ (by
    obtain ⟨p, xs, rfl, hp, ha⟩ := dy_tuple hx
    refine ⟨p, xs, rfl, hp, fun z H3 s3 h3 => q (.ref z) H3 (s1.trans s3) (dk1.same s3) (.tup h3 (dyA_same s3 ?_))⟩
    have e := dyA_len ha
    unfold cutV cutD
    rw [← e]
    exact dyA_take _ (dyA_drop _ ha)))
theorem WdE.rev {te : TE} {ds : List PyData} (a : WdE K d l c σ H0 te (.tuple ds)) : WdE K d l c σ H0 (tRevX K te) (.tuple ds.reverse) := fun H Q s dk q =>
  a H _ s dk fun x H1 s1 dk1 hx => by
    obtain ⟨p, xs, rfl, hp, ha⟩ := dy_tuple hx
    exact .inl ⟨p, xs, rfl, hp, fun r nr => q (.ref r) _ (s1.trans (same_new nr)) (dk1.upd nr) (.tup (.inl (.inl upd_same)) (dyA_same (same_new nr) (dyA_rev ha)))⟩
theorem WxA.nil : WxA K d l c n b m t σ H0 tNil 0 := fun H Q _ dk q => q [] H (Same.refl _) dk (fun _ h => (nomatch h)) rfl
theorem WxA.cons {te : TE} {ta : TA} {N : Nat} (a : WxE K d l c n b m t σ H0 te) (k : WxA K d l c n b m t σ H0 ta N) : WxA K d l c n b m t σ H0 (tCons te ta) (N + 1) := fun H Q s dk q =>
  a H _ s dk fun x H1 s1 dk1 h1 => k H1 _ (s.trans s1) dk1 fun xs H2 s2 dk2 h2 hl => q (x :: xs) H2 (s1.trans s2) dk2 (fun y hy => by
    rcases List.mem_cons.mp hy with rfl | hy
    · exact h1.same s2
    · exact h2 y hy) (by rw [List.length_cons, hl])
theorem SxA.cutD {ds : List PyData} (h : SxA n b m t ds) (lo hi : Option Int) : SxA n b m t (SG.cutD ds lo hi) := (h.drop _).take _
end
end SG

/-! More rules with the written part as a letter; three keywords, turned round. -/
namespace SG
open PySem PySem.Spec PyProof.Rows L2
section
variable {X : Cx} {K : PySem.W.Frag} {w : World}
def rInS (K : PySem.W.Frag) : R2 := fun x y H Q => ∃ p xs, y = .ref p ∧ (SqL K H p xs ∨ SqT K H p xs) ∧ flatV x = true ∧ xs.all flatV = true ∧ Q (.bl (inV x xs)) H
def rNotS (K : PySem.W.Frag) : R2 := fun x y H Q => ∃ p xs, y = .ref p ∧ (SqL K H p xs ∨ SqT K H p xs) ∧ flatV x = true ∧ xs.all flatV = true ∧ Q (.bl (!inV x xs)) H
theorem k_in (e : X.K = K := by rfl) : OpR X (compareOp .In) (rInS K) := by
  subst e
  exact op_in_seq
theorem k_notin (e : X.K = K := by rfl) : OpR X (compareOp .NotIn) (rNotS K) := by
  subst e
  exact op_notIn_seq
def rMaxK (K : PySem.W.Frag) : List V → Hp → VK → Prop := fun vs H Q => ∃ (a : Addr) (ns : List Int), vs = [V.ref a] ∧ SqL K H a (ns.map V.int) ∧ 0 < ns.length ∧ ∀ m, m ∈ ns → (∀ y, y ∈ ns → y ≤ m) → Q (.int m) H
def rMinK1 (K : PySem.W.Frag) : List V → Hp → VK → Prop := fun vs H Q => ∃ (a : Addr) (ns : List Int), vs = [V.ref a] ∧ SqL K H a (ns.map V.int) ∧ 0 < ns.length ∧ ∀ m, m ∈ ns → (∀ y, y ∈ ns → m ≤ y) → Q (.int m) H
theorem k_max (hc : X.calm = true) (e : X.K = K := by rfl) : CallR X (.builtin "max") (rMaxK K) := by
  subst e
  exact cr_max hc
theorem k_min (hc : X.calm = true) (e : X.K = K := by rfl) : CallR X (.builtin "min") (rMinK1 K) := by
  subst e
  exact cr_min hc
theorem k_sortI (e : X.K = K := by rfl) : CallR X (.builtin "sorted") (rSortedI K) := e ▸ cr_sortedI
theorem k_sortPO (e : X.K = K := by rfl) : CallR X (.builtin "sorted") (rSortedPO K) := e ▸ cr_sortedPO
theorem k_sortSet (hc : X.calm = true) (e : X.w = w := by rfl) : CallR X (.builtin "sorted") (rSortedSet w) := e ▸ cr_sortedSet hc
def rDictP (K : PySem.W.Frag) : List V → Hp → VK → Prop := fun xs H Q => ∃ (a : Addr) (ps : List Addr) (kvs : List (Key × V)), xs = [.ref a] ∧ SqL K H a (ps.map V.ref) ∧ Paired (fun p kv => SqT K H p [kV kv.1, kv.2]) ps kvs ∧ ∀ p, H p = none → Q (.ref p) (upd H p (.dK (mergeK [] kvs)))
theorem k_dictP (hc : X.calm = true) (e : X.K = K := by rfl) : CallR X (.type "dict") (rDictP K) := by
  subst e
  exact call_dictP hc
end
section
variable {X : Cx} {K : PySem.W.Frag}
theorem k_zipA {e e2 : Expr} {ta : TA} {p pos tpos : Pos} {elts : List Expr} {kk : Nat} (hg : Gl X "zip") (hm : X.mg "zip" = none) (ha : PA X [e, e2] ta)
    (hs : starEach [e, e2] X.env = (false, eval e X.env) :: starEach [e2] X.env := by rfl) (hpl : (backTo pos (starEach [e2] X.env)).any (·.1) = false := by rfl) (eK : X.K = K := by rfl) :
    PI X (.Tuple elts kk tpos) (.Call (.Name "zip" p) [e, e2] [] pos) (RZ.iZipA K ta) := eK ▸ RZ.pi_zipA hg hm ha hs hpl
end
theorem walk_zipT {K : PySem.W.Frag} {a b : Addr} {xs ys : List V} {n : Nat} (hn : n = min xs.length ys.length) : Walk (RZ.ItzT K a b) n (fun H => SqT K H a xs ∧ SqT K H b ys) (YPair (fun i => xs[i]?) (fun i => ys[i]?)) := by
  subst hn
  refine ⟨fun i _ hi q => ?_, fun _ q => ⟨xs, ys, q.1, q.2, by omega⟩, fun i H v H' _ q y => ?_⟩
  · have l1 : i < xs.length := by omega
    have l2 : i < ys.length := by omega
    exact ⟨xs, ys, xs[i], ys[i], q.1, q.2, by simp [l1], by simp [l2]⟩
  · obtain ⟨T, x, z, g1, g2, g3, g4, g5⟩ := y
    exact ⟨T, x, z, g1, g2, g3, g4 xs q.1, g5 ys q.2⟩
/-- three keywords, the last one first -/
def kwThree {α : Type} : List α → List α → List α
  | [], [c, b, a] => [a, b, c]
  | _, _ => []
theorem kwThree_rel {vs : List V} {us : List Value} {zs : List V} {ws : List Value} (a : Vals vs us) (b : Vals zs ws) : Vals (kwThree vs zs) (kwThree us ws) := by
  cases a with
  | cons _ _ => exact .nil
  | nil =>
    cases b with
    | nil => exact .nil
    | cons r t =>
      cases t with
      | nil => exact .nil
      | cons r2 t2 =>
        cases t2 with
        | nil => exact .nil
        | cons r3 t3 =>
          cases t3 with
          | nil => exact .cons r3 (.cons r2 (.cons r .nil))
          | cons _ _ => exact .nil
theorem kwThree_args {α : Type} {us ws : List α} (h : (kwThree us ws).length = 3) : ∃ x y z, us = [] ∧ ws = [x, y, z] := by
  match us, ws, h with
  | [], [x, y, z], _ => exact ⟨x, y, z, rfl, rfl⟩
  | [], [], h => exact absurd h (by simp [kwThree])
  | [], [_], h => exact absurd h (by simp [kwThree])
  | [], [_, _], h => exact absurd h (by simp [kwThree])
  | [], _ :: _ :: _ :: _ :: _, h => exact absurd h (by simp [kwThree])
  | _ :: _, _, h => exact absurd h (by simp [kwThree])
end SG

/-! Lemmas of the way to k54 that speak of no law. -/
namespace SG
open PySem PySem.Spec PyProof.Rows L2
section
variable {K : PySem.W.Frag}
theorem inV_int (k : Int) (ns : List Int) : inV (.int k) (ns.map V.int) = decide (k ∈ ns) := by
  unfold inV
  rw [List.any_map, Bool.eq_iff_iff, List.any_eq_true, decide_eq_true_eq]
  constructor
  · rintro ⟨x, hx, h⟩
    have h : (x == k) = true := h
    rw [← eq_of_beq h]
    exact hx
  · intro h
    exact ⟨k, h, (beq_self_eq_true k : (k == k) = true)⟩
theorem flat_ints (ns : List Int) : (ns.map V.int).all flatV = true := by
  rw [List.all_map, List.all_eq_true]
  exact fun _ _ => rfl
theorem get_int {ns : List Int} {i : Nat} {x : V} (h : (ns.map V.int)[i]? = some x) : ∃ k, x = .int k ∧ ns[i]? = some k := by
  rw [List.getElem?_map] at h
  obtain ⟨k, h1, h2⟩ := Option.map_eq_some_iff.mp h
  exact ⟨k, h2.symm, h1⟩
theorem int_nat {k : Int} (h : 0 ≤ k) : k = ((k.toNat : Nat) : Int) := by omega
/-- a row of answers, one for each of a row of whole numbers -/
theorem lc_bools {J : It} {G : Hp → Prop} {ns : List Int} {te : TE} {s : Nat} {σ : L2.St} {H1 : Hp} {D : Addr} {Qd : Hp → Prop} (w : Walk J (ns.map V.int).length G (YAt (ns.map V.int))) (hn : ns.length ≤ 1000) (hD : H1 D = none) (g : Int → Bool) (hG : ∀ H, Same H1 H → G H)
    (turn : ∀ (k : Int) (H2 : Hp), k ∈ ns → Same H1 H2 → ∀ R : VK, (∀ H3, Same H2 H3 → R (.bl (g k)) H3) → te ((wipe σ [s]).set s (some (.int k))) H2 R)
    (done : ∀ H2, Same H1 H2 → H2 D = some (.lst ((ns.map g).map V.bl)) → Qd H2) :
    ∃ W : Nat → Nat → Hp → Prop, (∃ m, W 0 m (upd H1 D (.lst []))) ∧ ∀ i m H, W i m H →
      (J.stop i H ∧ Qd H) ∨ (J.go i H ∧ ∃ Nx : Hp → Prop, (∀ H', Nx H' → ∃ m', m' < m ∧ W (i + 1) m' H') ∧ ∀ x H', J.yld i H x H' → gName s x (wipe σ [s]) H' fun σ2 H2 => wipe σ2 [s] = wipe σ [s] ∧ tYes σ2 H2 fun b H3 =>
        if b = true then te σ2 H3 fun y H4 => ∃ acc, H4 D = some (.lst acc) ∧ acc.length < sizeLine ∧ Nx (upd H4 D (.lst (acc ++ [y]))) else Nx H3) := by
  refine lc_same w (by rw [List.length_map]; exact hn) hD (fun i acc _ => acc = ((ns.map g).take i).map V.bl) rfl (fun _ _ _ _ _ h => h) hG ?_ ?_
  · rintro i x acc H5 H6 hi s5 rfl ⟨rfl, hx⟩ R N hR hN
    obtain ⟨k, rfl, hk⟩ := get_int hx
    refine ⟨wipe1 _ _ _, ?_⟩
    refine yesI (A := fun H7 => _) ?_
    refine turn k _ (List.mem_of_getElem? hk) s5 _ fun H3 s3 => hR _ _ s3 ?_
    rw [List.take_add_one, List.getElem?_map, hk]
    simp
  · rintro acc H5 s5 hl hD1 rfl
    rw [List.length_map, List.take_of_length_le (by rw [List.length_map]; exact Nat.le_refl _)] at hD1
    exact done H5 s5 hD1
theorem lc_nums {J : It} {G : Hp → Prop} {ns : List Int} {te : TE} {s : Nat} {σ : L2.St} {H1 : Hp} {D : Addr} {Qd : Hp → Prop} (w : Walk J (ns.map V.int).length G (YAt (ns.map V.int))) (hn : ns.length ≤ 1000) (hD : H1 D = none) (g : Int → Int) (hG : ∀ H, Same H1 H → G H)
    (turn : ∀ (k : Int) (H2 : Hp), k ∈ ns → Same H1 H2 → ∀ R : VK, (∀ H3, Same H2 H3 → R (.int (g k)) H3) → te ((wipe σ [s]).set s (some (.int k))) H2 R)
    (done : ∀ H2, Same H1 H2 → H2 D = some (.lst ((ns.map g).map V.int)) → Qd H2) :
    ∃ W : Nat → Nat → Hp → Prop, (∃ m, W 0 m (upd H1 D (.lst []))) ∧ ∀ i m H, W i m H →
      (J.stop i H ∧ Qd H) ∨ (J.go i H ∧ ∃ Nx : Hp → Prop, (∀ H', Nx H' → ∃ m', m' < m ∧ W (i + 1) m' H') ∧ ∀ x H', J.yld i H x H' → gName s x (wipe σ [s]) H' fun σ2 H2 => wipe σ2 [s] = wipe σ [s] ∧ tYes σ2 H2 fun b H3 =>
        if b = true then te σ2 H3 fun y H4 => ∃ acc, H4 D = some (.lst acc) ∧ acc.length < sizeLine ∧ Nx (upd H4 D (.lst (acc ++ [y]))) else Nx H3) := by
  refine lc_same w (by rw [List.length_map]; exact hn) hD (fun i acc _ => acc = ((ns.map g).take i).map V.int) rfl (fun _ _ _ _ _ h => h) hG ?_ ?_
  · rintro i x acc H5 H6 hi s5 rfl ⟨rfl, hx⟩ R N hR hN
    obtain ⟨k, rfl, hk⟩ := get_int hx
    refine ⟨wipe1 _ _ _, ?_⟩
    refine yesI (A := fun H7 => _) ?_
    refine turn k _ (List.mem_of_getElem? hk) s5 _ fun H3 s3 => hR _ _ s3 ?_
    rw [List.take_add_one, List.getElem?_map, hk]
    simp
  · rintro acc H5 s5 hl hD1 rfl
    rw [List.length_map, List.take_of_length_le (by rw [List.length_map]; exact Nat.le_refl _)] at hD1
    exact done H5 s5 hD1
/-- those of a row of whole numbers that pass -/
theorem lc_pass {J : It} {G : Hp → Prop} {ns : List Int} {tt : TT} {s : Nat} {σ : L2.St} {H1 : Hp} {D : Addr} {Qd : Hp → Prop} (w : Walk J (ns.map V.int).length G (YAt (ns.map V.int))) (hn : ns.length ≤ 1000) (hs : s < σ.length) (hD : H1 D = none) (g : Int → Bool) (hG : ∀ H, Same H1 H → G H)
    (turn : ∀ (k : Int) (H2 : Hp), k ∈ ns → Same H1 H2 → ∀ R : Bool → Hp → Prop, (∀ H3, Same H2 H3 → R (g k) H3) → tt ((wipe σ [s]).set s (some (.int k))) H2 R)
    (done : ∀ H2, Same H1 H2 → H2 D = some (.lst ((ns.filter g).map V.int)) → Qd H2) :
    ∃ W : Nat → Nat → Hp → Prop, (∃ m, W 0 m (upd H1 D (.lst []))) ∧ ∀ i m H, W i m H →
      (J.stop i H ∧ Qd H) ∨ (J.go i H ∧ ∃ Nx : Hp → Prop, (∀ H', Nx H' → ∃ m', m' < m ∧ W (i + 1) m' H') ∧ ∀ x H', J.yld i H x H' → gName s x (wipe σ [s]) H' fun σ2 H2 => wipe σ2 [s] = wipe σ [s] ∧ tt σ2 H2 fun b H3 =>
        if b = true then tVar s σ2 H3 fun y H4 => ∃ acc, H4 D = some (.lst acc) ∧ acc.length < sizeLine ∧ Nx (upd H4 D (.lst (acc ++ [y]))) else Nx H3) := by
  refine lc_same w (by rw [List.length_map]; exact hn) hD (fun i acc _ => acc = ((ns.take i).filter g).map V.int) rfl (fun _ _ _ _ _ h => h) hG ?_ ?_
  · rintro i x acc H5 H6 hi s5 rfl ⟨rfl, hx⟩ R N hR hN
    obtain ⟨k, rfl, hk⟩ := get_int hx
    refine ⟨wipe1 _ _ _, ?_⟩
    refine turn k _ (List.mem_of_getElem? hk) s5 _ fun H3 s3 => ?_
    have e : (ns.take (i + 1)).filter g = (ns.take i).filter g ++ (if g k = true then [k] else []) := by
      rw [List.take_add_one, hk, List.filter_append]
      congr 1
      by_cases e : g k = true <;> simp [e]
    by_cases e2 : g k = true
    · rw [e2]
      refine ifT rfl ⟨.int k, ?_, hR _ _ s3 ?_⟩
      · rw [List.getElem?_set_self (by rw [wipe_length]; exact hs)]
      · rw [e, if_pos e2, List.map_append]
        rfl
    · have e3 : g k = false := by simpa using e2
      rw [e3]
      refine ifF rfl (hN _ s3 ?_)
      rw [e, if_neg e2, List.append_nil]
  · rintro acc H5 s5 hl hD1 rfl
    rw [List.length_map, List.take_of_length_le (Nat.le_refl _)] at hD1
    exact done H5 s5 hD1
theorem atI_last {xs : List V} {x : V} : atI (xs ++ [x]) (-1) = some x := by
  unfold atI ixN
  rw [if_neg (by decide), List.length_append, List.length_singleton, if_pos (by omega)]
  have e : ((-1 : Int) + ((xs.length + 1 : Nat) : Int)).toNat = xs.length := by omega
  rw [e]
  show (xs ++ [x])[xs.length]? = some x
  rw [List.getElem?_append_right (Nat.le_refl _)]
  simp
theorem tups_upd {p : Addr} {H : Hp} {xs : List V} {o : HO} (h : H p = some (.lst xs)) : Tups H (upd H p o) := fun b u e nl => by
  have hb : b ≠ p := fun z => nl xs (Option.some.inj (e.symm.trans (by rw [z]; exact h)))
  rw [upd_ne hb]
  exact e
theorem sqT_tups {H H2 : Hp} (k : Tups H H2) {a : Addr} {zs : List V} (h : SqT K H a zs) : SqT K H2 a zs := by
  rcases h with (h | ⟨o, h⟩) | h
  · exact .inl (.inl (k _ _ h nofun))
  · exact .inl (.inr ⟨o, k _ _ h nofun⟩)
  · exact .inr h
theorem kept_upd {d l p : Addr} {H H2 : Hp} {o : HO} (k : Kept d l H H2) (n : H p = none) : Kept d l H (upd H2 p o) := fun b u e h1 h2 => by
  rw [upd_ne (ne_of_none e n)]
  exact k b u e h1 h2
theorem Dek.updN {d l p : Addr} {c : Nat} {H : Hp} {o : HO} (D : Dek H d l c) (h1 : p ≠ d) (h2 : p ≠ l) : Dek (L2.upd H p o) d l c := by
  obtain ⟨cs, m, n, e1, e2, e3⟩ := D
  exact ⟨cs, m, n, by rw [upd_ne (Ne.symm h1)]; exact e1, by rw [upd_ne (Ne.symm h2)]; exact e2, e3⟩
def rgI (n : Nat) : List Int := (List.range n).map fun (k : Nat) => (k : Int)
theorem rg_len (n : Nat) : (rgI n).length = n := by unfold rgI; simp
theorem rgV_eq (n : Nat) : rgV 0 (n : Int) = (rgI n).map V.int := by
  unfold rgV rgI
  rw [List.map_map]
  have e : ((n : Int) - 0).toNat = n := by omega
  rw [e]
  apply List.map_congr_left
  intro k _
  show V.int (0 + (k : Int)) = V.int (k : Int)
  rw [Int.zero_add]
theorem walk_enumT {a : Addr} {xs : List V} : Walk (IteT K a) xs.length (fun H => SqT K H a xs) (YPair (fun i => some (.int (i : Nat))) (fun i => xs[i]?)) := by
  refine ⟨fun i _ hi q => ⟨xs, xs[i], q, by simp [hi]⟩, fun _ q => ⟨xs, q, Nat.le_refl _⟩, fun i H v H' _ q y => ?_⟩
  obtain ⟨T, x, h1, h2, h3, h4⟩ := y
  exact ⟨T, .int (i : Nat), x, h1, h2, h3, rfl, h4 xs q⟩
/-- those of some data that a test doesn't take: none, if it takes all -/
theorem lc_none {J : It} {G : Hp → Prop} {xs : List V} {ds : List PyData} {tt : TT} {s : Nat} {σ : L2.St} {H1 : Hp} {D : Addr} {Qd : Hp → Prop} (w : Walk J xs.length G (YAt xs)) (ha : DxAll K H1 xs ds) (hn : xs.length ≤ 1000) (hs : s < σ.length) (hD : H1 D = none) (g : PyData → Bool) (hG : ∀ H, Same H1 H → G H)
    (turn : ∀ (x : V) (E : PyData) (H2 : Hp), E ∈ ds → Same H1 H2 → Dx K H2 x E → ∀ R : Bool → Hp → Prop, (∀ H3, Same H2 H3 → R (!g E) H3) → tt ((wipe σ [s]).set s (some x)) H2 R)
    (done : ∀ (acc : List V) (H2 : Hp), Same H1 H2 → H2 D = some (.lst acc) → acc.isEmpty = ds.all g → Qd H2) :
    ∃ W : Nat → Nat → Hp → Prop, (∃ m, W 0 m (upd H1 D (.lst []))) ∧ ∀ i m H, W i m H →
      (J.stop i H ∧ Qd H) ∨ (J.go i H ∧ ∃ Nx : Hp → Prop, (∀ H', Nx H' → ∃ m', m' < m ∧ W (i + 1) m' H') ∧ ∀ x H', J.yld i H x H' → gName s x (wipe σ [s]) H' fun σ2 H2 => wipe σ2 [s] = wipe σ [s] ∧ tt σ2 H2 fun b H3 =>
        if b = true then tVar s σ2 H3 fun y H4 => ∃ acc, H4 D = some (.lst acc) ∧ acc.length < sizeLine ∧ Nx (upd H4 D (.lst (acc ++ [y]))) else Nx H3) := by
  have lx := dxA_len ha
  refine lc_same w hn hD (fun i acc _ => acc.isEmpty = (ds.take i).all g) rfl (fun _ _ _ _ _ h => h) hG ?_ ?_
  · rintro i x acc H5 H6 hi s5 ea ⟨rfl, hx⟩ R N hR hN
    obtain ⟨E, h1, h2⟩ := dxA_get (dxA_same s5 ha) hx
    refine ⟨wipe1 _ _ _, ?_⟩
    refine turn x E _ (List.mem_of_getElem? h1) s5 h2 _ fun H3 s3 => ?_
    have e : (ds.take (i + 1)).all g = ((ds.take i).all g && g E) := by
      rw [List.take_add_one, h1, List.all_append]
      simp
    by_cases e2 : g E = true
    · rw [e2]
      refine ifF (by rfl) (hN _ s3 ?_)
      rw [e, e2, Bool.and_true]
      exact ea
    · have e3 : g E = false := by simpa using e2
      rw [e3]
      refine ifT rfl ⟨x, ?_, hR _ _ s3 ?_⟩
      · rw [List.getElem?_set_self (by rw [wipe_length]; exact hs)]
      · rw [e, e3, Bool.and_false]
        cases acc <;> rfl
  · rintro acc H5 s5 hl hD1 ea
    rw [lx, List.take_of_length_le (Nat.le_refl _)] at ea
    exact done acc H5 s5 hD1 ea
theorem eqv_ints : ∀ a b : List Int, PyData.eqv (.list (dI a)) (.list (dI b)) = decide (a = b)
  | [], [] => by simp [dI, PyData.eqv, PyData.eqvAll]
  | [], b :: r => by simp [dI, PyData.eqv, PyData.eqvAll]
  | a :: r, [] => by simp [dI, PyData.eqv, PyData.eqvAll]
  | a :: r, b :: t => by
    have ih := eqv_ints r t
    simp only [PyData.eqv] at ih
    show PyData.eqvAll (PyData.int a :: dI r) (PyData.int b :: dI t) = _
    simp only [PyData.eqvAll, PyData.eqv, ih]
    rw [Bool.eq_iff_iff]
    simp
/-- all but one object stays -/
def But (d : Addr) (H H2 : Hp) : Prop := ∀ b o, H b = some o → b ≠ d → H2 b = some o
theorem But.upd {d : Addr} {H H2 : Hp} {o : HO} (k : But d H H2) : But d H (upd H2 d o) := fun b x h hb => by
  rw [upd_ne hb]
  exact k _ _ h hb
theorem sqT_but {d : Addr} {H H2 : Hp} {kvs : List (Key × V)} (k : But d H H2) (hd : H d = some (.dK kvs)) {a : Addr} {zs : List V} (h : SqT K H a zs) : SqT K H2 a zs := by
  rcases h with (h | ⟨o, h⟩) | h
  · exact .inl (.inl (k _ _ h (ne_of h hd nofun)))
  · exact .inl (.inr ⟨o, k _ _ h (ne_of h hd nofun)⟩)
  · exact .inr h
theorem dx_kind_int {H : Hp} {x : V} {E : PyData} (h : Dx K H x E) (h1 : isIntLike E = true) (h2 : isBool E = false) : ∃ i, E = .int i ∧ x = .int i := by
  cases h with
  | int i => exact ⟨i, rfl, rfl⟩
  | bl b => cases h2
  | _ => cases h1
/-- a comprehension over range(n) whose turns draw so much each -/
theorem lc_drawsN {d l D : Addr} {c n m s : Nat} {te : TE} {σ : L2.St} {H1 : Hp} {Qd : Hp → Prop} {B : Hp → V → Prop} (BT : ∀ H H' x, Tups H H' → B H x → B H' x) (BK : ∀ H H' c x, Dek H d l c → Kept d l H H' → B H x → B H' x) (D0 : Dek H1 d l c) (hD : H1 D = none) (hn : n ≤ 1000)
    (turn : ∀ (i : Nat) (H2 : Hp), i < n → Dek H2 d l (c + m * i) → Kept d l H1 H2 → ∀ R : VK, (∀ (x : V) (H3 : Hp), B H3 x → Dek H3 d l (c + m * i + m) → Kept d l H2 H3 → R x H3) → te ((wipe σ [s]).set s (some (.int (0 + i)))) H2 R)
    (done : ∀ (xs : List V) (H2 : Hp), xs.length = n → (∀ x ∈ xs, B H2 x) → H2 D = some (.lst xs) → Dek H2 d l (c + m * n) → Kept d l H1 H2 → Qd H2) :
    ∃ W : Nat → Nat → Hp → Prop, (∃ m, W 0 m (upd H1 D (.lst []))) ∧ ∀ i m H, W i m H →
      ((Itr 0 n).stop i H ∧ Qd H) ∨ ((Itr 0 n).go i H ∧ ∃ Nx : Hp → Prop, (∀ H2, Nx H2 → ∃ m2, m2 < m ∧ W (i + 1) m2 H2) ∧ ∀ x H2, (Itr 0 n).yld i H x H2 → gName s x (wipe σ [s]) H2 fun σ2 H3 => wipe σ2 [s] = wipe σ [s] ∧ tYes σ2 H3 fun b H4 =>
        if b = true then te σ2 H4 fun y H5 => ∃ acc, H5 D = some (.lst acc) ∧ acc.length < sizeLine ∧ Nx (upd H5 D (.lst (acc ++ [y]))) else Nx H4) := by
  obtain ⟨nd, nl⟩ := D0.ne hD
  refine lc_range (fun i H2 => ∃ xs : List V, xs.length = i ∧ (∀ x ∈ xs, B H2 x) ∧ H2 D = some (.lst xs) ∧ Dek H2 d l (c + m * i) ∧ Kept d l H1 H2) ?_ ?_ ?_
  · exact ⟨[], rfl, (fun _ h => absurd h List.not_mem_nil), upd_same, D0.upd hD, .of (same_new hD)⟩
  · rintro i H2 hi ⟨xs, hx, hB, hD2, D2, k2⟩
    refine ⟨wipe1 _ _ _, ?_⟩
    refine yesI ?_
    refine turn i H2 hi D2 k2 _ fun x H3 hb D3 k3 => ⟨xs, k3 _ _ hD2 nd nl, ?_, xs ++ [x], by simp [hx], fun y hy => ?_, upd_same, ?_, ?_⟩
    · rw [hx]
      exact small1000 (by omega)
    · have tu := tups_upd (o := .lst (xs ++ [x])) (k3 _ _ hD2 nd nl)
      rcases List.mem_append.mp hy with h | h
      · exact BT _ _ _ tu (BK _ _ _ _ D2 k3 (hB y h))
      · rw [List.mem_singleton.mp h]; exact BT _ _ _ tu hb
    · have e : c + m * (i + 1) = c + m * i + m := by rw [Nat.mul_add, Nat.mul_one, Nat.add_assoc]
      rw [e]
      exact D3.updN nd nl
    · exact kept_upd (k2.trans k3) hD
  · rintro H2 ⟨xs, hx, hB, hD2, D2, k2⟩
    exact done xs H2 hx hB hD2 D2 k2
/-- those of a list that a test takes: none -/
theorem lc_empty {J : It} {G : Hp → Prop} {xs : List V} {tt : TT} {te : TE} {s : Nat} {σ : L2.St} {H1 : Hp} {D : Addr} {Qd : Hp → Prop} (w : Walk J xs.length G (YAt xs)) (hn : xs.length ≤ 1000) (hD : H1 D = none) (hG : ∀ H, Same H1 H → G H)
    (turn : ∀ (x : V) (H2 : Hp), x ∈ xs → Same H1 H2 → ∀ R : Bool → Hp → Prop, (∀ H3, Same H2 H3 → R false H3) → tt ((wipe σ [s]).set s (some x)) H2 R)
    (done : ∀ (H2 : Hp), Same H1 H2 → H2 D = some (.lst []) → Qd H2) :
    ∃ W : Nat → Nat → Hp → Prop, (∃ m, W 0 m (upd H1 D (.lst []))) ∧ ∀ i m H, W i m H →
      (J.stop i H ∧ Qd H) ∨ (J.go i H ∧ ∃ Nx : Hp → Prop, (∀ H', Nx H' → ∃ m', m' < m ∧ W (i + 1) m' H') ∧ ∀ x H', J.yld i H x H' → gName s x (wipe σ [s]) H' fun σ2 H2 => wipe σ2 [s] = wipe σ [s] ∧ tt σ2 H2 fun b H3 =>
        if b = true then te σ2 H3 fun y H4 => ∃ acc, H4 D = some (.lst acc) ∧ acc.length < sizeLine ∧ Nx (upd H4 D (.lst (acc ++ [y]))) else Nx H3) := by
  refine lc_same w hn hD (fun i acc _ => acc = []) rfl (fun _ _ _ _ _ h => h) hG ?_ ?_
  · rintro i x acc H5 H6 hi s5 rfl ⟨rfl, hx⟩ R N hR hN
    refine ⟨wipe1 _ _ _, ?_⟩
    refine turn x _ (List.mem_of_getElem? hx) s5 _ fun H3 s3 => ifF (by rfl) (hN _ s3 rfl)
  · rintro acc H5 s5 hl hD1 rfl
    exact done H5 s5 hD1
theorem cat_wx {d l : Addr} {c n b m t : Nat} {σ : L2.St} {H : Hp} {ta : TA} {N i j : Nat} {p : Addr} {xs : List V} {De : Ends} (e : σ[i]? = some (some (.ref p))) (hp : H p = some (.lst xs)) (it0 : ∀ x ∈ xs, Itm K d l n b m t H x) (lit : WxA K d l c n b m t σ H ta N) (dk : Dek H d l c) (hN : xs.length + N ≤ 1000)
    (q : ∀ (p2 : Addr) (ys : List V) (H2 : Hp), Same H H2 → Dek H2 d l c → p2 ≠ d → p2 ≠ l → H p2 = none → H2 p2 = some (.lst ys) → (∀ y ∈ ys, Itm K d l n b m t H2 y) → ys.length = xs.length + N → De.nx (σ.set j (some (.ref p2))) H2) :
    tAsg (tOp rCat (tVar i) (tLst ta)) (gName j) De σ H := by
  refine ⟨_, e, lit H _ (Same.refl H) dk fun zs H1 s1 dk1 it hl => ⟨Nat.le_of_lt (small1000 (by omega)), fun p1 np1 => ?_⟩⟩
  have s2 : Same H (upd H1 p1 (.lst zs)) := s1.trans (same_new np1)
  have dk2 := dk1.upd (o := .lst zs) np1
  have h1 : upd H1 p1 (.lst zs) p1 = some (.lst zs) := upd_same
  refine ⟨p, p1, xs, zs, rfl, rfl, s2 _ _ hp, h1, Nat.le_of_lt (small1000 (by omega)), fun p2 np2 => ?_⟩
  refine q p2 _ _ (s2.trans (same_new np2)) (dk2.upd np2) (dk2.ne np2).1 (dk2.ne np2).2 (s2.free np2) upd_same (fun y hy => ?_) (by rw [List.length_append, hl])
  rcases List.mem_append.mp hy with h | h
  · exact (it0 y h).same (s2.trans (same_new np2))
  · exact (it y h).same ((same_new np1).trans (same_new np2))
theorem dxA_ints {H : Hp} : ∀ {xs : List V} {ns : List Int}, DxAll K H xs (ns.map PyData.int) → xs = ns.map V.int
  | _, [], .nil => rfl
  | _, n :: ns, .cons a b => by
    cases a
    rw [dxA_ints b]
    rfl
theorem k_bm {X : Cx} {T id : String} {name : Str} {apos cpos : Pos} {o e : Expr} {es : List Expr} {to : TE} {t : TA} {r : V → List V → Hp → VK → Prop} (pa : PlainAttrs T) (slot : Slot T name id) (hty : typeOf (.builtin id) = pure (.type "method_descriptor")) (hm : MtR X id r) (ho : PE X o to) (ha : PA X (e :: es) t)
    (hbase : attributeBase o name X.env (eval o X.env) = eval o X.env := by rfl)
    (hfew : ((backTo cpos (starEach (e :: es) X.env)).all (fun x => !x.1) && (backToKw cpos (keywordEach [] X.env)).all (fun x => x.1.isSome)
      && decide ((e :: es).length + ([] : List Keyword).length + (if ([] : List Keyword).isEmpty then 0 else 1) < 30)) = true := by rfl)
    (hline : (apos.endLine == cpos.line) = true := by rfl) (hs : starEach (e :: es) X.env = (false, eval e X.env) :: starEach es X.env := by rfl) (hplain : (backTo cpos (starEach es X.env)).any (·.1) = false := by rfl) (eK : X.K = K := by rfl) :
    PE X (.Call (.Attribute o name apos) (e :: es) [] cpos) (tBM K T r to t) := by
  subst eK
  exact pe_bm pa slot hty hm ho ha hbase hfew hline hs hplain
theorem k_index {X : Cx} (e : X.K = K := by rfl) : MtR X "list.index" (rIndex K) := by
  subst e
  exact mt_index
theorem k_tupI {X : Cx} {tg e : Expr} {te : TE} (he : PE X e te) (eK : X.K = K := by rfl) : PI X tg e (iTup K te) := by
  subst eK
  exact pi_tup he
theorem k_listI {X : Cx} {tg e : Expr} {te : TE} (he : PE X e te) (eK : X.K = K := by rfl) : PI X tg e (iList K te) := by
  subst eK
  exact pi_list he
end
end SG

/-! Any data compared with an empty tuple. -/
namespace PySem.SeqAt
open PySem PySem.Spec
theorem tuple_eq_declines_dict (l b : Addr) (items : Array Value) (es : Array DictEntry) (n n2 : Nat) (dd dd2 : Option Addr) (sl sl2 : Array (Option Value)) :
    Meets (Builtin.«tuple.__eq__» ⟨[.ref l, .ref b], []⟩) (fun _ R s => s.heap.get? l = some { cls := .type "tuple", dict := dd, data := .seq items n, slots := sl } ∧ s.heap.get? b = some { cls := .type "dict", dict := dd2, data := .dict es n2, slots := sl2 } ∧ R (.ok (.ret .notImplemented)) s) :=
  .of_wp fun prog w A R s h => by obtain ⟨hp, g, d, tk, os⟩ := s; obtain ⟨hl, hb, h⟩ := h; have f1 := F.sub_dict_tuple; wp_walk using wpAny_loadPart' hl, wpAny_loadPart' hb; exact ⟨_, rfl, h⟩
theorem dict_eq_declines_tuple (l b : Addr) (items : Array Value) (es : Array DictEntry) (n n2 : Nat) (dd dd2 : Option Addr) (sl sl2 : Array (Option Value)) :
    Meets (Builtin.«dict.__eq__» ⟨[.ref b, .ref l], []⟩) (fun _ R s => s.heap.get? l = some { cls := .type "tuple", dict := dd, data := .seq items n, slots := sl } ∧ s.heap.get? b = some { cls := .type "dict", dict := dd2, data := .dict es n2, slots := sl2 } ∧ R (.ok (.ret .notImplemented)) s) :=
  .of_wp fun prog w A R s h => by
    obtain ⟨hl, hb, h⟩ := h
    show wpAny _ _ (Builtin.Dict.dictSlotArgs "__eq__" ⟨[.ref b, .ref l], []⟩ >>= _) _ _ s
    refine wpAny_bind ?_
    unfold Builtin.Dict.dictSlotArgs
    refine wpAny_bind (wpAny_notOrdered_dict ⟨_, hb, rfl⟩ ?_)
    show wpAny _ _ (pure (Value.ref b, Value.ref l)) _ _ s
    refine wpAny_pure ?_
    refine wpAny_bind (wpAny_isInstance (T := "tuple") ⟨_, hl, rfl⟩ F.sub_tuple_dict ?_)
    simp only [Bool.not_false, if_true]
    refine wpAny_bind (wpAny_rule ?_)
    exact wpAny_pure ⟨_, rfl, h⟩
section
variable {A : Around} {s : Shared}
theorem RcAt.dict_tuple {b l : Addr} {items : Array Value} {o : Obj} {n2 : Nat} {es : Array DictEntry} (ho : s.heap.get? b = some o) (hc : o.cls = .type "dict") (hd : o.data = .dict es n2) (hb : s.heap.IsTuple l items) (hu : A.units < cLine) : RcAt A s (.ref b) (.ref l) false := fun prog w E Q h => by
  obtain ⟨cls, dd, data, sl⟩ := o
  obtain ⟨⟨cls2, dd2, data2, sl2⟩, ho2, hc2, n, hd2⟩ := id hb
  simp only at hc hd hc2 hd2
  subst hc hd hc2 hd2
  have hne : b ≠ l := fun e => by
    subst e
    rw [ho] at ho2
    have z := congrArg Obj.cls (Option.some.inj ho2)
    simp at z
  exact (rc_eq_decline_or (k := false) ⟨_, ho, rfl⟩ ⟨_, ho2, rfl⟩ (by decide) F.sub_tuple_dict F.slot_dict_eq F.slot_tuple_eq_refl
    (fun _ hq => call_meets F.slot_dict_eq ⟨_, ho, rfl⟩ F.entry_dict_eq (F.args_dict_eq_2 _ _) (dict_eq_declines_tuple l b items es n n2 dd2 dd sl2 sl) ⟨ho2, ho, hq⟩)
    (fun _ hq => call_meets F.slot_tuple_eq_refl ⟨_, ho2, rfl⟩ F.entry_tuple_eq (F.args_tuple_eq_2 _ _) (tuple_eq_declines_dict l b items es n n2 dd2 dd sl2 sl) ⟨ho2, ho, hq⟩)
    (fun _ hq => wpAny_isSame_ref_other hne ho ho2 (by simp) hq) (.inr hu) h)
end
end PySem.SeqAt
namespace SG
open PySem PySem.Spec PyProof.Rows L2
def isUnit : PyData → Bool
  | .tuple [] => true
  | _ => false
/-- any data, and an empty tuple -/
def rEqU (K : PySem.W.Frag) : R2 := fun x y H Q => ∃ D b, y = .ref b ∧ Dx K H x D ∧ SqT K H b [] ∧ Q (.bl (isUnit D)) H
section
variable {X : Cx}
theorem op_eqU (hu : X.A.units < cLine) : OpR X (compareOp .Eq) (rEqU X.K) := by
  intro pins s σ H x y v u Q I rx ry h
  obtain ⟨D, b, rfl, hd, hb, q⟩ := h
  cases ry
  obtain ⟨is2, r2, p2, _⟩ := I.tuple hb
  obtain rfl := vals_nil r2
  cases hd with
  | non =>
    obtain rfl : v = Value.none := rx
    exact SeqAt.RcAt.none_tuple p2 hu X.prog X.w X.xe _ ⟨.bl false, H, I, rfl, q⟩
  | bl k =>
    obtain rfl : v = Value.bool k := rx
    exact SeqAt.RcAt.bool_tuple k p2 hu X.prog X.w X.xe _ ⟨.bl false, H, I, rfl, q⟩
  | int i =>
    obtain ⟨t, rfl⟩ := rx
    exact SeqAt.RcAt.int_tuple i t p2 hu X.prog X.w X.xe _ ⟨.bl false, H, I, rfl, q⟩
  | str z =>
    obtain ⟨t, rfl⟩ := rx
    exact SeqAt.RcAt.str_tuple z t p2 hu X.prog X.w X.xe _ ⟨.bl false, H, I, rfl, q⟩
  | lst hs ha =>
    rename_i p xs ds
    obtain rfl : v = Value.ref p := rx
    obtain ⟨its, rv, p1, _⟩ := I.list hs
    exact SeqAt.RcAt.list_tuple p1.isList p2 hu X.prog X.w X.xe _ ⟨.bl false, H, I, rfl, q⟩
  | tup hs ha =>
    rename_i p xs ds
    obtain rfl : v = Value.ref p := rx
    obtain ⟨is1, r1, p1, _⟩ := I.tuple hs
    have e := size_of_vals r1
    have el := dxA_len ha
    refine SeqAt.eq_tupleAt p1 p2 hu (e := fun _ => true) (fun j _ h2 => absurd h2 (by simp)) ⟨.bl (isUnit (.tuple ds)), H, I, ?_, q⟩
    show Value.bool _ = Value.bool _
    congr 1
    rw [e, el]
    cases ds <;> simp [isUnit]
  | dct hp =>
    rename_i p
    obtain rfl : v = Value.ref p := rx
    obtain ⟨_, o, n, h1, h2, h3⟩ := dct_at I hp
    exact SeqAt.RcAt.dict_tuple h1 h2 h3 p2 hu X.prog X.w X.xe _ ⟨.bl false, H, I, rfl, q⟩
theorem k_eqU {K : PySem.W.Frag} (hu : X.A.units + 64 < cLine) (e : X.K = K := by rfl) : OpR X (compareOp .Eq) (rEqU K) := e ▸ op_eqU (by omega)
end
end SG

/-! y = {k: v for ..} -/
namespace SG
open PySem PySem.Spec PyProof.Rows L2
section
variable {X : Cx}
theorem ps_setDc {i : Nat} {y : Str} {py : Pos} {kx vx tg iter : Expr} {ifs : List Expr} {scope : Scope} {own : List (Str × Nat)} {pos spos : Pos} {wi : TI} {g : TG} {tt : TT} {tk tv : TE} (hc : X.calm = true) (hN : X.N.Nodup) (hy : X.N[i]? = some y) (hyl : X.env.scope.names.lookup y = some .local)
    (hsw : swapsWith (.DictComp kx vx [⟨tg, iter, ifs, 0⟩] scope pos) (some (.Name y py)) spos.line X.env = pure true) (hi : PI X tg iter wi) (ok : BlkOk X.N X.env.scope scope own)
    (hg : ∀ (s : Shared) (H : Hp) (C : Addr) (cl : List (Str × Addr)) (fp : List Addr), PG (X.blk s H scope (compEnvC scope cl C X.env) fp) tg g) (ht : ∀ (s : Shared) (H : Hp) (C : Addr) (cl : List (Str × Addr)) (fp : List Addr), PTs (X.blk s H scope (compEnvC scope cl C X.env) fp) ifs tt)
    (hk : ∀ (s : Shared) (H : Hp) (C : Addr) (cl : List (Str × Addr)) (fp : List Addr), PE (X.blk s H scope (compEnvC scope cl C X.env) fp) kx tk)
    (he : ∀ (s : Shared) (H : Hp) (C : Addr) (cl : List (Str × Addr)) (fp : List Addr), PE (X.blk s H scope (compEnvC scope cl C X.env) fp) vx tv) (hs : ∀ x, foldedSetIterable iter X.env x = pure x := by intro _; rfl) :
    PS X (.Assign [.Name y py] (.DictComp kx vx [⟨tg, iter, ifs, 0⟩] scope pos) spos) (tAsg (tDc wi g tt tk tv (own.map (·.2))) (gName i)) := by
  refine ⟨fun pins s σ H D I h => ?_⟩
  rw [exec_Assign_Name_used _ _ _ _ hsw]
  refine wpAny_bind (wpAny_standAt (wpAny_bind ?_))
  show wpAny _ X.A (do let _ ← comprehension (.DictComp kx vx [⟨tg, iter, ifs, 0⟩] scope pos) scope X.env (firstIterPos [⟨tg, iter, ifs, 0⟩] pos) newDict false (eval iter X.env) (some (assign (.Name y py) X.env))) _ _ s
  have h : tDc wi g tt tk tv (own.map (·.2)) σ H (fun x H1 => gName i x σ H1 D.nx) := h
  refine wpAny_bind (thn (dc_core (Qf := fun _ s' => SP X pins D .next s') hc hN I hi ok hg ht hk he hs h fun L C s' m H' I' q hn f => ?_) fun _ s' hq => wpAny_pure (wpAny_pure hq))
  show wpAny _ _ (assign (.Name y py) X.env (.ref L)) _ _ _
  refine wpAny_assign_Name (store_ok2 (v := V.ref L) I' hN hy (.inl hyl) rfl (fun s2 I2 ⟨a, sb, ha⟩ => ?_) (.inr hyl))
  obtain ⟨f0, f1, f2, f3, f4, f5⟩ := f
  have haC : C ≠ a := by
    rcases ha with z | z
    · rw [z]; exact f1
    · exact fun e => f4 y a z e.symm
  refine ⟨m, hn.sameBut sb haC, fun h3 sb3 => ?_⟩
  exact ⟨_, H', I2.turned (t' := s2.toks) (fun b o hb e => (sb3.2 b hb).trans e) f0 f1 f3 f4 f5, q⟩
theorem sw_trueD {kx vx : Expr} {gs : List Comprehension} {scope : Scope} {pos py : Pos} {y : Str} {l : Nat} {env : Env} (hk : env.scope.kind = .function) (hy : env.scope.names.lookup y = some .local) (hl : (py.line == pos.line) = true)
    (ha : (scope.names.any fun (n, k) => n == y && (k == .local || k == .cell)) = false) : swapsWith (.DictComp kx vx gs scope pos) (some (.Name y py)) l env = pure true := by
  have ky : env.kindOf y = some .local := hy
  have hb : env.blockKind = .function := by unfold Env.blockKind; rw [hk]; rfl
  unfold swapsWith
  simp only [hb, ky, ha, Expr.pos, hl]
  rfl
end
end SG

namespace SG
open PySem PySem.Spec PyProof.Rows L2
def iEnumS0 (ta : TA) : TI := fun σ Hx R => ta σ Hx fun vs H1 => ∃ (x : Str), vs = [.str x] ∧ R (IteS x 0) H1
theorem pi_enumS0 {X : Cx} {e : Expr} {ta : TA} {p pos tpos : Pos} {elts : List Expr} {kk : Nat} (hg : Gl X "enumerate") (hm : X.mg "enumerate" = none) (ha : PA X [e] ta) (hs : starEach [e] X.env = [(false, eval e X.env)] := by rfl) :
    PI X (.Tuple elts kk tpos) (.Call (.Name "enumerate" p) [e] [] pos) (iEnumS0 ta) := by
  refine ⟨fun pins st σ Hx R I h => ?_⟩
  refine Call_ (ld_blt I hg hm boot_enumerate (PyProof.Rows.callWith_type1 (thn (ha.run pos pins st σ Hx _ I h) ?_) hs rfl))
  rintro us s1 ⟨vs, H1, I1, r1, x, rfl, q⟩
  obtain ⟨t, rfl⟩ : ∃ t, us = [.str x t] := by
    cases r1 with
    | cons x y => cases y; obtain ⟨t, rfl⟩ := x; exact ⟨_, rfl⟩
  refine enum1_begins (begins_text x t) trivial fun h2 he hit hsz hkp => wpAny_pyIter_enum he ?_
  have I2 : L2.Inv X pins σ H1 { s1 with heap := h2 } := I1.kept (t' := s1.toks) hkp
  refine ⟨s1.heap.objs.size + 1, [s1.heap.objs.size + 1, s1.heap.objs.size], _, _, H1, rfl, I2, turn_enumS x t 0 (s1.heap.objs.size + 1) s1.heap.objs.size,
    ⟨⟨.none, he⟩, ⟨_, hit, rfl, rfl⟩, Nat.succ_ne_self _⟩, fun b hb => ?_, q⟩
  have hle : s1.heap.objs.size ≤ b := by
    rcases (show b = s1.heap.objs.size + 1 ∨ b = s1.heap.objs.size by simpa using hb) with z | z
    · rw [z]; exact Nat.le_succ _
    · rw [z]; exact Nat.le_refl _
  exact I1.fpOk hle (I1.hok.fresh hle)
end SG

namespace SG
open PySem PySem.Spec PyProof.Rows L2
theorem get_list {X : Cx} {K : PySem.W.Frag} (eK : X.K = K := by rfl) : PGet X (rIxL K) := by
  subst eK
  intro pins s σ H x y v u Q I rx ry h
  obtain ⟨p, xs, i, z, rfl, rfl, hq, he, q⟩ := h
  cases rx
  obtain ⟨t, rfl⟩ := ry
  obtain ⟨its, r, pl, hz⟩ := I.list hq
  obtain ⟨j, h1, h2, h3, h4, h5⟩ := atI_get he
  obtain ⟨w, ew, rw'⟩ := r.get h2
  have hl := r.length
  have hn := line63
  have fin : EP X pins σ Q w s := ⟨z, H, I, rw', q⟩
  by_cases h0 : 0 ≤ i
  · have hj : i.toNat = j := by
      rw [seqIndex_of h0 h5] at h1
      exact Option.some.inj h1
    exact wpAny_getItem_list (Q := EP X pins σ Q) pl.isList h0 (by omega) (by rw [hj]; simpa using ew) fin
  · have hj : (i + (its.toArray.size : Int)).toNat = j := by
      rw [seqIndex_neg (by omega) h4] at h1
      rw [List.size_toArray, ← hl]
      exact Option.some.inj h1
    exact wpAny_getItem_list_neg (Q := EP X pins σ Q) pl.isList (by omega) (by rw [List.size_toArray] <;> omega) (by omega) (by rw [hj]; simpa using ew) fin
end SG

/-! Longer comprehensions; `in` of a tuple or a dict; `in` of an own class. -/
namespace SG
open PySem PySem.Spec PyProof.Rows L2
theorem small5 {n : Nat} (h : n ≤ 100000) : n < sizeLine := Nat.lt_of_le_of_lt h (by decide)
theorem lc_valW {J : It} {n : Nat} {G : Hp → Prop} {Y : Nat → Hp → V → Hp → Prop} (w : Walk J n G Y) {g : TG} {te : TE} {vs : List Nat} {σ : L2.St} {H1 : Hp} {D : Addr} {Qd : Hp → Prop} (hn : n ≤ 100000) (hD : H1 D = none) (f : Nat → V) (hG : ∀ H, Same H1 H → G H)
    (turn : ∀ (i : Nat) (x : V) (H2 H3 : Hp), i < n → Same H1 H2 → Y i H2 x H3 → ∀ R : VK, (∀ H6, Same H2 H6 → R (f i) H6) → g x (wipe σ vs) H3 fun σ2 H4 => wipe σ2 vs = wipe σ vs ∧ te σ2 H4 R)
    (done : ∀ (H2 : Hp), Same H1 H2 → H2 D = some (.lst ((List.range n).map f)) → Qd H2) :
    ∃ W : Nat → Nat → Hp → Prop, (∃ m, W 0 m (upd H1 D (.lst []))) ∧ ∀ i m H, W i m H →
      (J.stop i H ∧ Qd H) ∨ (J.go i H ∧ ∃ Nx : Hp → Prop, (∀ H', Nx H' → ∃ m', m' < m ∧ W (i + 1) m' H') ∧ ∀ x H', J.yld i H x H' → g x (wipe σ vs) H' fun σ2 H2 => wipe σ2 vs = wipe σ vs ∧ tYes σ2 H2 fun b H3 =>
        if b = true then te σ2 H3 fun y H4 => ∃ acc, H4 D = some (.lst acc) ∧ acc.length < sizeLine ∧ Nx (upd H4 D (.lst (acc ++ [y]))) else Nx H3) := by
  refine lc_it w (fun i H => Same H1 H ∧ H D = some (.lst ((List.range i).map f))) ⟨same_new hD, upd_same⟩ (fun i H _ q => hG H q.1) ?_ ?_
  · rintro i x H H2 hi ⟨s, hA⟩ hy
    have z := turn i x H H2 hi s hy (fun y H4 => ∃ acc, H4 D = some (.lst acc) ∧ acc.length < sizeLine ∧ (Same H1 (upd H4 D (.lst (acc ++ [y]))) ∧ upd H4 D (.lst (acc ++ [y])) D = some (.lst ((List.range (i + 1)).map f)))) (fun H6 s6 => ⟨_, s6 _ _ hA, small5 (by simp; omega), same_upd_of (s.trans s6) hD, by rw [upd_same, List.range_succ, List.map_append]; rfl⟩)
    exact z
  · rintro H ⟨s, hA⟩
    exact done H s hA
theorem lc_filW {J : It} {n : Nat} {G : Hp → Prop} {Y : Nat → Hp → V → Hp → Prop} (w : Walk J n G Y) {g : TG} {tt : TT} {te : TE} {vs : List Nat} {σ : L2.St} {H1 : Hp} {D : Addr} {Qd : Hp → Prop} (hn : n ≤ 100000) (hD : H1 D = none) (p : Nat → Bool) (f : Nat → V) (hG : ∀ H, Same H1 H → G H)
    (turn : ∀ (i : Nat) (x : V) (H2 H3 : Hp), i < n → Same H1 H2 → Y i H2 x H3 → ∀ (R : VK) (N : Hp → Prop), (p i = true → ∀ H6, Same H2 H6 → R (f i) H6) → (p i = false → ∀ H6, Same H2 H6 → N H6) →
      g x (wipe σ vs) H3 fun σ2 H4 => wipe σ2 vs = wipe σ vs ∧ tt σ2 H4 fun b H5 => if b = true then te σ2 H5 R else N H5)
    (done : ∀ (H2 : Hp), Same H1 H2 → H2 D = some (.lst (((List.range n).filter p).map f)) → Qd H2) :
    ∃ W : Nat → Nat → Hp → Prop, (∃ m, W 0 m (upd H1 D (.lst []))) ∧ ∀ i m H, W i m H →
      (J.stop i H ∧ Qd H) ∨ (J.go i H ∧ ∃ Nx : Hp → Prop, (∀ H', Nx H' → ∃ m', m' < m ∧ W (i + 1) m' H') ∧ ∀ x H', J.yld i H x H' → g x (wipe σ vs) H' fun σ2 H2 => wipe σ2 vs = wipe σ vs ∧ tt σ2 H2 fun b H3 =>
        if b = true then te σ2 H3 fun y H4 => ∃ acc, H4 D = some (.lst acc) ∧ acc.length < sizeLine ∧ Nx (upd H4 D (.lst (acc ++ [y]))) else Nx H3) := by
  refine lc_it w (fun i H => Same H1 H ∧ H D = some (.lst (((List.range i).filter p).map f))) ⟨same_new hD, upd_same⟩ (fun i H _ q => hG H q.1) ?_ ?_
  · rintro i x H H2 hi ⟨s, hA⟩ hy
    refine turn i x H H2 hi s hy _ _ (fun hp H6 s6 => ⟨_, s6 _ _ hA, small5 ?_, same_upd_of (s.trans s6) hD, ?_⟩) (fun hp H6 s6 => ⟨s.trans s6, ?_⟩)
    · rw [List.length_map]
      have := List.length_filter_le p (List.range i)
      rw [List.length_range] at this
      omega
    · rw [upd_same, List.range_succ, List.filter_append, List.map_append, List.filter_cons_of_pos hp]
      rfl
    · rw [s6 _ _ hA, List.range_succ, List.filter_append, List.map_append, List.filter_cons_of_neg (by rw [hp]; decide)]
      simp
  · rintro H ⟨s, hA⟩
    exact done H s hA
section
variable {X : Cx} {K : PySem.W.Frag}
/-- in a list, a tuple or a dict -/
def rInE (K : PySem.W.Frag) : R2 := fun x y H Q => rInS K x y H Q ∨ ∃ a o, y = .ref a ∧ DGet H a x o ∧ Q (.bl o.isSome) H
theorem k_inE (hu : X.A.units + 1 < cLine) (e : X.K = K := by rfl) : OpR X (compareOp .In) (rInE K) := by
  subst e
  intro pins s σ H x y v u Q I rx ry h
  rcases h with h | ⟨a, o, rfl, hd, q⟩
  · exact op_in_seq pins s σ H x y v u Q I rx ry h
  · cases ry
    exact d_in hu I hd rx fun s' I' => ⟨.bl _, H, I', rfl, q⟩
def rNotE (K : PySem.W.Frag) : R2 := fun x y H Q => rNotS K x y H Q ∨ ∃ a o, y = .ref a ∧ DGet H a x o ∧ Q (.bl (!o.isSome)) H
theorem k_notinE (hu : X.A.units + 1 < cLine) (e : X.K = K := by rfl) : OpR X (compareOp .NotIn) (rNotE K) := by
  subst e
  intro pins s σ H x y v u Q I rx ry h
  rcases h with h | ⟨a, o, rfl, hd, q⟩
  · exact op_notIn_seq pins s σ H x y v u Q I rx ry h
  · cases ry
    exact d_notIn hu I hd rx fun s' I' => ⟨.bl _, H, I', rfl, q⟩
end
section
open PySem.W PySem.Calls
theorem contains_own {prog : Program} {w : World} {A : Around} {E : Value → Shared → Prop} {s : Shared} {K : Frag} {x C f : Addr} {ox : Obj} {od : Option Obj} {v : Value} {Q : Bool → Shared → Prop} (X : K.In s.heap) (I : InstAt s.heap x ox C od)
    (hs : findIn K (.ref C) "__contains__" = some (some (.ref f))) (hf : typeIn K (.ref f) = some (.type "function"))
    (h : wpAny (model prog w) A (call (.ref f) [.ref x, v]) (fun r s' => wpAny (model prog w) A (truthy r) Q E s') E s) : wpAny (model prog w) A (contains (.ref x) v) Q E s := by
  unfold contains
  refine wpAny_holding ?_
  refine wpAny_bind (wpAny_bind (I.type.here ((looks_findIn X hs).here ?_)))
  show wpAny _ _ (if (some (Value.ref f) == some Value.none) = true then _ else _) _ _ _
  rw [if_neg (by simp)]
  unfold callSpecialUnlessNone?
  refine wpAny_bind (wpAny_bind (wpAny_bind (I.type.here ((looks_findIn X hs).here ?_))))
  refine wpAny_holding (wpAny_bind ((bind_fn X _ hf).here ?_))
  show wpAny _ _ (if (Value.ref f == Value.none) = true then _ else _) _ _ _
  rw [if_neg (by simp)]
  exact wpAny_bind (wpAny_mono h (fun _ _ z => wpAny_pure z) fun _ _ z => z)
end
section
variable {X : Cx} {k : Nat} {f : Addr} {fd : FuncData} {ps : List Str} {sp : Sp} {C : Addr}
/-- x in y, y an instance of the class at C that has its own `in` -/
def rInOwn (C : Addr) (sp : Sp) : R2 := fun x y H Q => ∃ (a dx : Addr) (fs : List (Str × V)), y = .ref a ∧ H a = some (.ins C dx fs) ∧ sp [.ref a, x] H (fun z H2 => ∃ b, z = .bl b ∧ Q (.bl b) H2) E0
theorem op_inOwn (F : FnOk X.prog X.w X.K X.mg X.base CX0 k f fd ps sp) (hr : Room k X.A) (hs : PySem.W.findIn X.K (.ref C) "__contains__" = some (some (.ref f))) (hf : PySem.W.typeIn X.K (.ref f) = some (.type "function")) (hb : Binds X.K fd ps []) :
    OpR X (compareOp .In) (rInOwn C sp) := by
  intro pins s σ H x y v u Q I rx ry h
  obtain ⟨a, dx, fs, rfl, ha, hsp⟩ := h
  cases ry
  obtain ⟨mA, J, _⟩ := ins_get I.hok ha
  obtain ⟨od, J, _⟩ := J.look
  show wpAny (model X.prog X.w) X.A (contains (.ref a) v >>= fun b => pure (.bool b)) (EP X pins σ Q) X.xe s
  refine wpAny_bind (contains_own I.kIn J hs hf ?_)
  have r2 : Vals [V.ref a, x] [Value.ref a, v] := .cons rfl (.cons rx .nil)
  have hl := r2.length
  rw [F.len _ _ _ _ hsp] at hl
  refine wpAny_call (codeAny_mono (F.run X.A X.stack s H ⟨[.ref a, v], []⟩ [.ref a, v] [.ref a, x] _ E0 hr I.env0 (by
    have z := hb s [.ref a, v] I.kIn (by simpa using hl.symm)
    simpa using z) r2 hsp) fun r s2 hq => ?_)
  cases r with
  | error e => exact False.elim hq
  | ok fl =>
    cases fl with
    | next => exact False.elim hq
    | brk => exact False.elim hq
    | cont => exact False.elim hq
    | ret w2 =>
      obtain ⟨z, H2, I2, rz, b, rfl, q2⟩ := I.after hq
      cases rz
      show wpAny _ _ (truthy (.bool b)) _ _ _
      unfold truthy
      exact wpAny_pure (wpAny_pure ⟨.bl b, H2, I2, rfl, q2⟩)
end
end SG

/-! x != y, x an instance of a class with an == of its own and no != -/
namespace SG
open PySem PySem.Spec PyProof.Rows L2
section
open PySem.W PySem.Calls Builtin
variable {prog : Program} {w : World} {A : Around} {E : Value → Shared → Prop} {s : Shared} {K : Frag} {x C f : Addr} {ox : Obj} {od : Option Obj} {name : Str} {b tb : Value}
theorem ifBound_b {M : Model} {i : String} {args : List Value} {Q : Option Value → Shared → Prop} (X : K.In s.heap) (I : InstAt s.heap x ox C od) (hs : findIn K (.ref C) name = some (some (.builtin i))) (hb : bindSpecial (.builtin i) (.ref x) = pure (.builtin i, [.ref x]))
    (h : wpAny M A (call (.builtin i) (.ref x :: args)) (fun v => Q (some v)) E s) : wpAny M A (callSpecialIfBound? (.ref x) name args) Q E s := by
  simp only [callSpecialIfBound?, bindSpecialIfBound?]
  refine wpAny_holding (wpAny_bind (wpAny_bind (wpAny_bind (I.type.here ((looks_findIn X hs).here ?_)))))
  refine wpAny_bind (wpAny_askSetting (wpAny_ite ?_))
  have fin : wpAny M A (call (.builtin i) ([.ref x] ++ args) >>= fun v => pure (some v)) Q E s := wpAny_bind (wpAny_mono h (fun v s' h' => wpAny_pure h') fun _ _ h' => h')
  rw [hb]
  split
  · exact wpAny_bind (wpAny_pure (wpAny_pure (by exact fin)))
  · exact wpAny_tryCatch (wpAny_bind (wpAny_pure (wpAny_pure (by exact fin))))
theorem ne_own {Q : Value → Shared → Prop} (hu : A.units + 1 < cLine) (X : K.In s.heap) (I : InstAt s.heap x ox C od) (hb : Looks (model prog w) s.heap (typeOf b) tb) (hn : notFirst K C tb = true)
    (hne : findIn K (.ref C) "__ne__" = some (some (.builtin "object.__ne__"))) (ho : mroIn K C (.type "object") = some true) (hs : findIn K (.ref C) "__eq__" = some (some (.ref f))) (hf : isFn K (.ref f) = true)
    (h : wpAny (model prog w) A.in1 (call (.ref f) [.ref x, b]) (fun v s' => ∃ r, v = .bool r ∧ Q (.bool (!r)) s') E s) : wpAny (model prog w) A (richCompare .NotEq (.ref x) b) Q E s := by
  have S := PySem.F.cmp_object.ne
  have sb : Looks (model prog w) s.heap (isInstance (.ref x) (.type "object")) true := I.type.andThen (looks_mroIn X ho)
  have one : wpAny (model prog w) A (tryCompare (.ref x) "__ne__" b) (fun r s' => ∃ v, r = some v ∧ Q v s') E s := by
    unfold tryCompare
    refine wpAny_bind (ifBound_b X I hne (S.bind _) ?_)
    refine wpAny_call (codeAny_call_builtin S.plain PySem.F.cmpEntry_ne ?_)
    refine check_slot PySem.F.cmpKind_ne PySem.F.cmpSplit_ne sb (PySem.F.cmpArgs_ne _ _) ?_
    unfold Builtin.«object.__ne__»
    refine wpAny_bind (wpAny_pure ?_)
    refine wpAny_bind (wpAny_cRoomFor hu ?_)
    refine wpAny_bind (ifBound_K X I hs hf (wpAny_mono h (fun v s' hv => ?_) fun _ _ e => e))
    obtain ⟨r, rfl, hq⟩ := hv
    show wpAny _ _ (truthy (.bool r) >>= _) _ _ _
    unfold truthy
    exact wpAny_bind (wpAny_pure (wpAny_pure (by exact wpAny_pure ⟨_, rfl, hq⟩)))
  unfold richCompare
  simp only [oneThing_ref]
  refine wpAny_holding (wpAny_bind (wpAny_cRoomFor (Nat.lt_of_succ_lt hu) ?_))
  refine wpAny_bind (I.type.here (wpAny_bind (hb.here ?_)))
  split
  · rename_i q
    have e : subIn K tb (.ref C) = some false := by
      rcases Bool.or_eq_true_iff.mp hn with e | e
      · rw [beq_iff_eq.mp e] at q; simp at q
      · exact beq_iff_eq.mp e
    refine wpAny_bind ((looks_subIn X e).here ?_)
    simp only [Bool.false_eq_true, if_false]
    refine wpAny_bind (wpAny_mono one (fun r s' z => ?_) fun _ _ e => e)
    obtain ⟨v, rfl, hq⟩ := z
    exact wpAny_pure hq
  · refine wpAny_bind (wpAny_pure ?_)
    simp only [Bool.false_eq_true, if_false]
    refine wpAny_bind (wpAny_mono one (fun r s' z => ?_) fun _ _ e => e)
    obtain ⟨v, rfl, hq⟩ := z
    exact wpAny_pure hq
end
section
variable {X : Cx} {k : Nat} {f : Addr} {fd : FuncData} {ps : List Str} {sp : Sp} {C : Addr}
def rNeOwn (K : PySem.W.Frag) (C : Addr) (sp : Sp) : R2 := fun x y H Q => ∃ (a dx : Addr) (fs : List (Str × V)) (tb : Value), x = .ref a ∧ H a = some (.ins C dx fs) ∧ TyX K H y tb ∧ PySem.W.notFirst K C tb = true ∧ sp [x, y] H (fun z H2 => ∃ r, z = .bl r ∧ Q (.bl (!r)) H2) E0
theorem op_neOwn {K : PySem.W.Frag} (F : FnOk X.prog X.w X.K X.mg X.base CX0 k f fd ps sp) (hr : Room (k + 1) X.A) (hne : PySem.W.findIn X.K (.ref C) "__ne__" = some (some (.builtin "object.__ne__"))) (ho : PySem.W.mroIn X.K C (.type "object") = some true)
    (hs : PySem.W.findIn X.K (.ref C) "__eq__" = some (some (.ref f))) (hf : PySem.W.isFn X.K (.ref f) = true) (hb : Binds X.K fd ps []) (eK : X.K = K := by rfl) :
    OpR X (compareOp .NotEq) (rNeOwn K C sp) := by
  subst eK
  intro pins s σ H x y v u Q I rx ry h
  obtain ⟨a, dx, fs, tb, rfl, ha, ht, hn, hsp⟩ := h
  cases rx
  obtain ⟨mA, J, _⟩ := ins_get I.hok ha
  obtain ⟨od, J, _⟩ := J.look
  obtain ⟨P, ⟨Z, hP, _⟩⟩ := kit_of I ry ht
  show wpAny (model X.prog X.w) X.A (richCompare .NotEq (.ref a) u) (EP X pins σ Q) X.xe s
  refine ne_own (hu_of hr) I.kIn J (Z.ty _ _ I.kIn hP) hn hne ho hs hf ?_
  have r2 : Vals [V.ref a, y] [Value.ref a, u] := .cons rfl (.cons ry .nil)
  have hl := r2.length
  rw [F.len _ _ _ _ hsp] at hl
  have e0 : Env0 X.prog X.w X.K X.mg X.base X.A.in1 X.stack s H := by
    have e := I.env0
    exact ⟨e.frames, e.mod, e.bs, e.bsz, e.funs, e.frf, e.hok, e.bare⟩
  refine wpAny_call (codeAny_mono (F.run X.A.in1 X.stack s H ⟨[.ref a, u], []⟩ [.ref a, u] [.ref a, y] _ E0 hr.in1 e0 (by
    have z := hb s [.ref a, u] I.kIn (by simpa using hl.symm)
    simpa using z) r2 hsp) fun r s2 hq => ?_)
  cases r with
  | error e => exact False.elim hq
  | ok fl =>
    cases fl with
    | next => exact False.elim hq
    | brk => exact False.elim hq
    | cont => exact False.elim hq
    | ret w2 =>
      obtain ⟨z, H2, I2, rz, r, rfl, q2⟩ := I.after hq
      cases rz
      exact ⟨r, rfl, .bl (!r), H2, I2, rfl, q2⟩
end
end SG

/-! Operators of own classes: x & y, x | y, x - y of one class, ~x. -/
namespace SG
open PySem PySem.Spec PyProof PyProof.Rows L2
section
variable {X : Cx} {k : Nat} {f C : Addr} {fd : FuncData} {ps : List Str} {sp : Sp}
def rBinOwn (K : PySem.W.Frag) (C : Addr) (sp : Sp) : R2 := fun x y H Q => ∃ (a dx : Addr) (fs : List (Str × V)), x = .ref a ∧ H a = some (.ins C dx fs) ∧ TyX K H y (.ref C) ∧ sp [x, y] H Q E0
theorem op_binOwn {K : PySem.W.Frag} {op : Operator} (F : FnOk X.prog X.w X.K X.mg X.base CX0 k f fd ps sp) (hr : Room k X.A) (hs : PySem.W.findIn X.K (.ref C) (PySem.dunder op.info.2) = some (some (.ref f))) (hf : PySem.W.isFn X.K (.ref f) = true) (hc : PySem.W.selfFirst X.K C = true) (hb : Binds X.K fd ps []) (eK : X.K = K := by rfl) :
    OpR X (binaryOp op) (rBinOwn K C sp) := by
  subst eK
  intro pins s σ H x y v u Q I rx ry h
  obtain ⟨a, dx, fs, rfl, ha, ht, hsp⟩ := h
  cases rx
  obtain ⟨mA, J, _⟩ := ins_get I.hok ha
  obtain ⟨od, J, _⟩ := J.look
  obtain ⟨P, ⟨Z, hP, _⟩⟩ := kit_of I ry ht
  obtain ⟨m, hF⟩ := I.fr
  refine PySem.W.binop_K (op := op) hF I.ok.mod.kin J (Z.ty _ _ I.kIn hP) hc hs hf ?_
  have r2 : Vals [V.ref a, y] [Value.ref a, u] := .cons rfl (.cons ry .nil)
  have hl := r2.length
  rw [F.len _ _ _ _ hsp] at hl
  refine wpAny_call (codeAny_mono (F.run X.A X.stack s H ⟨[.ref a, u], []⟩ [.ref a, u] [.ref a, y] Q E0 hr I.env0 (by
    have z := hb s [.ref a, u] I.kIn (by simpa using hl.symm)
    simpa using z) r2 hsp) fun r s2 hq => ?_)
  cases r with
  | error e => exact False.elim hq
  | ok fl =>
    cases fl with
    | next => exact False.elim hq
    | brk => exact False.elim hq
    | cont => exact False.elim hq
    | ret w2 =>
      obtain ⟨z, H2, I2, rz, q2⟩ := I.after hq
      have e2 : EP X pins σ Q w2 s2 := ⟨z, H2, I2, rz, q2⟩
      cases z <;> (try obtain ⟨_, rfl⟩ := rz) <;> (try cases rz) <;> exact e2
def rInvOwn (C : Addr) (sp : Sp) : V → Hp → VK → Prop := fun x H Q => ∃ (a dx : Addr) (fs : List (Str × V)), x = .ref a ∧ H a = some (.ins C dx fs) ∧ sp [x] H Q E0
theorem un_invOwn (F : FnOk X.prog X.w X.K X.mg X.base CX0 k f fd ps sp) (hr : Room k X.A) (hs : PySem.W.findIn X.K (.ref C) "__invert__" = some (some (.ref f))) (hf : PySem.W.isFn X.K (.ref f) = true) (hb : Binds X.K fd ps []) :
    UnR X (unaryOp .Invert) (rInvOwn C sp) := by
  intro pins s σ H x v Q I rx h
  obtain ⟨a, dx, fs, rfl, ha, hsp⟩ := h
  cases rx
  obtain ⟨mA, J, _⟩ := ins_get I.hok ha
  obtain ⟨od, J, _⟩ := J.look
  obtain ⟨m, hF⟩ := I.fr
  refine PySem.W.ksp_inv hF I.ok.mod.kin J hs hf ?_
  have r2 : Vals [V.ref a] [Value.ref a] := .cons rfl .nil
  have hl := r2.length
  rw [F.len _ _ _ _ hsp] at hl
  refine wpAny_call (codeAny_mono (F.run X.A X.stack s H ⟨[.ref a], []⟩ [.ref a] [.ref a] Q E0 hr I.env0 (by
    have z := hb s [.ref a] I.kIn (by simpa using hl.symm)
    simpa using z) r2 hsp) fun r s2 hq => ?_)
  cases r with
  | error e => exact False.elim hq
  | ok fl =>
    cases fl with
    | next => exact False.elim hq
    | brk => exact False.elim hq
    | cont => exact False.elim hq
    | ret w2 =>
      obtain ⟨z, H2, I2, rz, q2⟩ := I.after hq
      exact ⟨z, H2, I2, rz, q2⟩
end
end SG

/-! lcm of two; a method called by keywords alone. -/
namespace SG
open PySem PySem.Spec PyProof PyProof.Rows L2
section
variable {X : Cx}
def rLcm : List V → Hp → VK → Prop := fun vs H Q => ∃ a b : Nat, vs = [.int a, .int b] ∧ a < 2 ^ 30 ∧ b < 2 ^ 30 ∧ Q (.int ((Nat.lcm a b : Nat) : Int)) H
theorem cr_lcm : CallR X (.builtin "math.lcm") rLcm := by
  intro pins s σ H vs us Q I r h
  obtain ⟨a, b, rfl, ha, hb, q⟩ := h
  obtain ⟨t, u, rfl⟩ := Vals.int2 r
  have hl : Nat.lcm a b ≤ a * b := Nat.div_le_self _ _
  have hm : a * b ≤ 2 ^ 30 * 2 ^ 30 := Nat.mul_le_mul (Nat.le_of_lt ha) (Nat.le_of_lt hb)
  have e : (Nat.lcm 1 (a : Int).natAbs).lcm (b : Int).natAbs = Nat.lcm a b := by rw [Nat.lcm_one_left, Int.natAbs_natCast, Int.natAbs_natCast]
  refine PySem.W.mg_lcm (by rw [Int.natAbs_natCast]; omega) (by rw [Int.natAbs_natCast]; omega) ?_ ?_
  · rw [e, Int.natAbs_natCast]
    refine Nat.lt_of_le_of_lt (PySem.W.mg_log (k := 61) (by omega)) (by decide)
  · rw [e]
    exact ⟨.int _, H, I.tok _, ⟨_, rfl⟩, q⟩
end
section
variable {X : Cx} {k : Nat} {f C : Addr} {fd : FuncData} {ps ks : List Str} {sp : Sp} {m : Str} {apos pos : Pos} {o : Expr} {kws : List Keyword} {ta : TE} {tk : TA} {g : List Value → List Value → List Value} {gV : List V → List V → List V}
/-- o.m(k = e, ..) -/
def tMethSK (C : Addr) (m : Str) (sp : Sp) (gV : List V → List V → List V) (ta : TE) (tk : TA) : TE := fun σ H Q => ta σ H fun x H1 => ∃ a dx fs, x = .ref a ∧ H1 a = some (.ins C dx fs) ∧ fs.lookup m = none ∧ tk σ H1 fun zs H2 => sp (gV [x] zs) H2 Q E0
theorem pe_methSK {pl : Sem Bool} (he : PE X o ta) (c : Cls X.K C) (hm : Meth X.K C m f) (F : FnOk X.prog X.w X.K X.mg X.base CX0 k f fd ps sp) (hr : Room k X.A) (hb : KBinds X.K fd ps ks g gV) (hkw : PK X kws tk)
    (hall : (backToKw pos (keywordEach kws X.env)).all (·.1.isSome) = true := by rfl) (hks : (backToKw pos (keywordEach kws X.env)).filterMap (·.1) = ks := by rfl)
    (hpl : ((backTo pos (starEach [] X.env)).any (·.1) || (backToKw pos (keywordEach kws X.env)).any (·.1.isNone)) = false := by rfl)
    (ht : eval (.Call (.Attribute o m apos) [] kws pos) X.env = (do
      let ov ← eval o X.env
      standAt apos.atName
      let (f, first) ← holding [ov] (getMethod ov m pl)
      callWith pos f first (backTo pos (starEach [] X.env)) (backToKw pos (keywordEach kws X.env))) := by rfl) :
    PE X (.Call (.Attribute o m apos) [] kws pos) (tMethSK C m sp gV ta tk) := by
  refine ⟨fun pins s σ H Q I h => ?_⟩
  refine PySem.W.methodCall_KW (pl := pl) (thn (he.run pins s σ H _ I h) fun u s1 ⟨x, H1, I1, rx, a, dx, fs, ex, ea, l, q⟩ => ?_) ht
  subst ex
  obtain rfl : u = Value.ref a := rx
  refine getmeth_ok I1 ea c hm l ?_
  refine PySem.W.callWith_KW0 (first := [.ref a]) (h₀ := X.base) I1.ok.mod.kin hm.kp hall (thn (hkw.run pos pins s1 σ H1 _ I1 q) ?_) hpl
  rintro ws s2 ⟨zs, H2, I2, rz, q2⟩
  refine ⟨I2.kIn, ?_⟩
  rw [hks, List.append_nil]
  have r2 := hb.rel (vs := [V.ref a]) (us := [Value.ref a]) (.cons rfl .nil) rz
  have hl := r2.length
  rw [F.len _ _ _ _ q2] at hl
  refine wpAny_call (codeAny_mono (F.run X.A X.stack s2 H2 ⟨[.ref a], ks.zip ws⟩ _ _ Q E0 hr I2.env0 (hb.to s2 [.ref a] ws I2.kIn hl.symm) r2 q2) fun r s3 hq => ?_)
  cases r with
  | error e => exact False.elim hq
  | ok fl =>
    cases fl with
    | next => exact False.elim hq
    | brk => exact False.elim hq
    | cont => exact False.elim hq
    | ret w2 =>
      obtain ⟨z, H3, I3, rz3, q3⟩ := I2.after hq
      exact ⟨z, H3, I3, rz3, q3⟩
end
end SG

/-! A method called by one keyword. -/
namespace SG
open PySem PySem.Spec PyProof.Rows L2
def kwSelf1 {α : Type} : List α → List α → List α
  | [a], [x] => [a, x]
  | _, _ => []
theorem kwSelf1_rel {vs : List V} {us : List Value} {zs : List V} {ws : List Value} (a : Vals vs us) (b : Vals zs ws) : Vals (kwSelf1 vs zs) (kwSelf1 us ws) := by
  cases a with
  | nil => exact .nil
  | cons ra a =>
    cases a with
    | cons _ _ => cases b <;> exact .nil
    | nil =>
      cases b with
      | nil => exact .nil
      | cons rb b =>
        cases b with
        | nil => exact .cons ra (.cons rb .nil)
        | cons _ _ => exact .nil
theorem kwSelf1_args {α : Type} {us ws : List α} (h : (kwSelf1 us ws).length = 2) : ∃ a x, us = [a] ∧ ws = [x] := by
  match us, ws, h with
  | [a], [x], _ => exact ⟨a, x, rfl, rfl⟩
  | [], _, h => exact absurd h (by simp [kwSelf1])
  | [_], [], h => exact absurd h (by simp [kwSelf1])
  | [_], _ :: _ :: _, h => exact absurd h (by simp [kwSelf1])
  | _ :: _ :: _, _, h => exact absurd h (by simp [kwSelf1])
end SG

set_option maxHeartbeats 2000000
/-! Comprehensions whose result is any new object: what is done at each turn is told by a word of one's own. -/
namespace SG
open PySem PySem.Spec PyProof.Rows L2
/-- a new object (o0), walked over, each turn that is let does st -/
def tAny (o0 : Addr → HO) (wi : TI) (g : TG) (tt : TT) (st : L2.St → Hp → Addr → (Hp → Prop) → Prop) (vs : List Nat) : TE := fun σ H Q =>
  wi σ H fun J G => ∀ D, G D = none → ∃ W : Nat → Nat → Hp → Prop, (∃ m, W 0 m (upd G D (o0 D))) ∧
    ∀ i m G1, W i m G1 → (J.stop i G1 ∧ Q (.ref D) G1) ∨
      (J.go i G1 ∧ ∃ Nx : Hp → Prop, (∀ G', Nx G' → ∃ m', m' < m ∧ W (i + 1) m' G') ∧
        ∀ x G2, J.yld i G1 x G2 → g x (wipe σ vs) G2 fun τ G3 => wipe τ vs = wipe σ vs ∧ tt τ G3 fun b G4 => if b = true then st τ G4 D Nx else Nx G4)
abbrev Bdy := Addr → Env → (Unit → Shared → Prop) → (Value → Shared → Prop) → Shared → Prop
section
variable {X : Cx}
/-- what a loop's turn has to show -/
def TurnOk (X : Cx) (bd : Bdy) (tg iter : Expr) (ifs : List Expr) (it : Value) (D : Addr) (en : Env) (R : Result → Shared → Prop) (I : Nat → Shared → Prop) : Prop :=
  ∀ n t, I n t → wpAny (model X.prog X.w) X.A (pyNext it) (fun r t1 => match r with
    | none => R (.ok .next) t1
    | some v => wpAny (model X.prog X.w) X.A (letOwnedTupleGo tg it v) (fun _ t2 =>
        wpAny (model X.prog X.w) X.A (assign tg en v) (fun _ t3 =>
          wpAny (model X.prog X.w) X.A (forIn ifs true fun c r => if r = true then do let ok ← isTrue c en (eval c en); pure (ForInStep.yield ok) else pure (ForInStep.yield r)) (fun ok t4 =>
            if ok = true then bd D en (fun _ t5 => ∃ m, m < n ∧ I m t5) (notedBy (model X.prog X.w) X.A en fun e t' => R (.error e) t') t4 else ∃ m, m < n ∧ I m t4)
            (notedBy (model X.prog X.w) X.A en fun e t' => R (.error e) t') t3) (notedBy (model X.prog X.w) X.A en fun e t' => R (.error e) t') t2)
        (notedBy (model X.prog X.w) X.A en fun e t' => R (.error e) t') t1) (notedBy (model X.prog X.w) X.A en fun e t' => R (.error e) t') t
theorem any_core {pins : List (Addr × Obj)} {s : Shared} {σ : L2.St} {H : Hp} {Q : VK} {ex tg iter : Expr} {ifs : List Expr} {sc : Scope} {own : List (Str × Nat)} {ps : Pos} {wi : TI} {g : TG} {tt : TT} {st : L2.St → Hp → Addr → (Hp → Prop) → Prop} {o0 : Addr → HO} {mk : Sem Value} {bd : Bdy} {use : Option (Value → Sem Unit)} {Qf : Value → Shared → Prop}
    (hc : X.calm = true) (hN : X.N.Nodup) (I : L2.Inv X pins σ H s) (hi : PI X tg iter wi) (ok : BlkOk X.N X.env.scope sc own)
    (hg : ∀ (s : Shared) (H : Hp) (C : Addr) (cl : List (Str × Addr)) (fp : List Addr), PG (X.blk s H sc (compEnvC sc cl C X.env) fp) tg g)
    (ht : ∀ (s : Shared) (H : Hp) (C : Addr) (cl : List (Str × Addr)) (fp : List Addr), PTs (X.blk s H sc (compEnvC sc cl C X.env) fp) ifs tt)
    (hs : ∀ x, foldedSetIterable iter X.env x = pure x) (hcl : clausesOf ex = [⟨tg, iter, ifs, 0⟩])
    (hmk : ∀ (t : Shared) (G : Hp) (E : Value → Shared → Prop) (Qv : Value → Shared → Prop), L2.Inv X pins σ G t → (∀ ob : Obj, L2.Inv X pins σ (upd G t.heap.objs.size (o0 t.heap.objs.size)) { t with heap := t.heap.push ob } → Qv (.ref t.heap.objs.size) { t with heap := t.heap.push ob }) → wpAny (model X.prog X.w) X.A mk Qv E t)
    (hst : ∀ (it ac : Value) (en : Env) (R : Result → Shared → Prop) (t : Shared), codeAny (model X.prog X.w) X.A (.compLoop ex 0 it ac en) R t →
      wpAny (model X.prog X.w) X.A (pyIter it) (fun it' t' => codeAny (model X.prog X.w) X.A (.compLoop ex 0 it' ac en) R t') (notedBy (model X.prog X.w) X.A en fun x t' => R (.error x) t') t → codeAny (model X.prog X.w) X.A (.compStart ex 0 it ac en) R t)
    (hlp : ∀ (it : Value) (D : Addr) (en : Env) (R : Result → Shared → Prop) (J : Nat → Shared → Prop), TurnOk X bd tg iter ifs it D en R J → ∀ n t, J n t → codeAny (model X.prog X.w) X.A (.compLoop ex 0 it (.ref D) en) R t)
    (hbd : ∀ (t : Shared) (G : Hp) (C : Addr) (cl : List (Str × Addr)) (fp : List Addr) (pins' : List (Addr × Obj)) (τ : L2.St) (G1 : Hp) (t1 : Shared) (D : Addr) (Nx : Hp → Prop) (F : Unit → Shared → Prop) (E : Value → Shared → Prop),
      L2.Inv (X.blk t G sc (compEnvC sc cl C X.env) fp) pins' τ G1 t1 → st τ G1 D Nx → (∀ t2 G2, L2.Inv (X.blk t G sc (compEnvC sc cl C X.env) fp) pins' τ G2 t2 → Nx G2 → F () t2) → bd D (compEnvC sc cl C X.env) F E t1)
    (h : tAny o0 wi g tt st (own.map (·.2)) σ H Q)
    (hRR : ∀ D C s' m H', L2.Inv X pins σ H' s' → Q (.ref D) H' → s'.heap.Ns C m → FpOk X pins H' C → compPost (model X.prog X.w) X.A X.xe use Qf (.ref D) C (.ok .next) s') :
    wpAny (model X.prog X.w) X.A (comprehension ex sc X.env ps mk false (eval iter X.env) use) Qf X.xe s := by
  have fr : ∀ y ∈ sc.names, y.2 = .free → ∃ c, X.env.cells.lookup y.1 = some c := fun y hy e => (ok.free y hy e).elim (fun k => I.ok.has _ (.inl k)) fun k => I.ok.has _ (.inr k)
  refine wpAny_comprehension_free (use := use) hcl hs (closure_ok fr) ok.kind (fun y hy e => by rw [ok.uniq y hy, e]) (thn (hi.run pins s σ H _ I h) fun xv t1 h1 => thn h1 fun itv t2 h2 => ?_)
  obtain ⟨it, fp, tn, J, G2, rfl, I2, T, stt, f2, q⟩ := h2
  refine hmk t2 G2 _ _ I2 fun ob I3 => newEnv_comp ?_
  have fD : G2 t2.heap.objs.size = none := I2.hok.fresh (Nat.le_refl _)
  obtain ⟨W, ⟨m0, w0⟩, turn⟩ := q _ fD
  obtain ⟨D, hD⟩ : ∃ D, D = t2.heap.objs.size := ⟨_, rfl⟩
  obtain ⟨t3, ht3⟩ : ∃ t3 : Shared, t3 = { t2 with heap := t2.heap.push ob } := ⟨_, rfl⟩
  have hp3 : t3.heap = t2.heap.push ob := by rw [ht3]
  rw [← hD] at I3 w0 turn fD ⊢
  rw [← ht3] at I3 ⊢
  have up : ∀ b ∈ fp, b < t2.heap.objs.size := fun b hb => by
    obtain ⟨o, e, _⟩ := T.obj _ _ stt b hb
    exact Heap.lt_size e
  have f3 : ∀ b ∈ fp, FpOk X pins (upd G2 D (o0 D)) b ∧ b < t3.heap.objs.size := fun b hb => ⟨⟨(upd_ne (by rw [hD]; exact Nat.ne_of_lt (up b hb))).trans (f2 b hb).1, (f2 b hb).2⟩, by rw [hp3, Heap.size_push]; exact Nat.lt_succ_of_lt (up b hb)⟩
  have tn3 : tn 0 t3.heap := T.keep _ _ _ stt fun b _ o e => by rw [hp3]; exact Heap.get?_push_of_some _ e
  have I4 := block_start I3 ok hN f3
  have pg := hg t3 (upd G2 D (o0 D)) t3.heap.objs.size (cellsFrom (t3.heap.objs.size + 1) sc.names (cloFrom X.env.cells sc.names [])) fp
  have pt := ht t3 (upd G2 D (o0 D)) t3.heap.objs.size (cellsFrom (t3.heap.objs.size + 1) sc.names (cloFrom X.env.cells sc.names [])) fp
  have pb := hbd t3 (upd G2 D (o0 D)) t3.heap.objs.size (cellsFrom (t3.heap.objs.size + 1) sc.names (cloFrom X.env.cells sc.names [])) fp
  change codeAny _ _ (.compStart ex 0 (.ref it) (.ref D) (compEnvC sc (cellsFrom (t3.heap.objs.size + 1) sc.names (cloFrom X.env.cells sc.names [])) t3.heap.objs.size X.env)) (compPost (model X.prog X.w) X.A X.xe use Qf (.ref D) t3.heap.objs.size) { t3 with heap := pushCells (t3.heap.push { cls := .type "dict", data := .dict #[] }) sc.names }
  have none3 : ∀ b ∈ fp, (upd G2 D (o0 D)) b = none := fun b hb => (f3 b hb).1.1
  generalize hen : compEnvC sc (cellsFrom (t3.heap.objs.size + 1) sc.names (cloFrom X.env.cells sc.names [])) t3.heap.objs.size X.env = en at I4 pg pt pb ⊢
  have loc : en.locals = t3.heap.objs.size := by rw [← hen]; rfl
  generalize upd G2 D (o0 D) = G3 at I3 I4 pg pt pb w0 none3 f3
  obtain ⟨t4, ht4⟩ : ∃ t4 : Shared, t4 = { t3 with heap := pushCells (t3.heap.push { cls := .type "dict", data := .dict #[] }) sc.names } := ⟨_, rfl⟩
  rw [← ht4] at I4 ⊢
  have tn4 : tn 0 t4.heap := T.keep _ _ _ tn3 fun b _ o e => by rw [ht4]; exact pushCells_keeps _ _ _ _ (Heap.get?_push_of_some _ e)
  have stat : ∀ {τ : L2.St} {G' : Hp} {t' : Shared}, L2.Inv (X.blk t3 G3 sc en fp) [] τ G' t' → (∀ b ∈ fp, G' b = none) → ∀ b ∈ fp, FpOk (X.blk t3 G3 sc en fp) [] G' b := fun {τ G' t'} I' hn b hb =>
    ⟨hn b hb, (I'.ok.exf b hb).1, I'.ok.exfs b hb, .inl hb, fun x c e => (I'.ok.exf b hb).2 x c e, fun p hp => (nomatch (show p ∈ ([] : List (Addr × Obj)) from hp))⟩
  have whole : codeAny (model X.prog X.w) X.A (.compLoop ex 0 (.ref it) (.ref D) en) (compPost (model X.prog X.w) X.A X.xe use Qf (.ref D) t3.heap.objs.size) t4 := by
    refine hlp _ _ _ _ (fun n t' => ∃ i G', L2.Inv (X.blk t3 G3 sc en fp) [] (wipe σ (own.map (·.2))) G' t' ∧ tn i t'.heap ∧ (∀ b ∈ fp, G' b = none) ∧ W i n G') ?_ m0 _ ⟨0, G3, I4, tn4, none3, w0⟩
    rintro n t5 ⟨i, G5, I5, tn5, n5, w5⟩
    rcases turn i n G5 w5 with ⟨stop, fine⟩ | ⟨go, Nx, less, step⟩
    case inl =>
      refine thnF (T.done (X.blk t3 G3 sc en fp) rfl rfl rfl hc i [] t5 _ G5 (fun _ _ => False) I5 (stat I5 n5) tn5 stop) fun r t6 ⟨er, I6⟩ => ?_
      subst er
      have nC : G5 t3.heap.objs.size = none := loc ▸ (show G5 en.locals = none from I6.free)
      obtain ⟨m, hn, _⟩ := I6.loc
      exact hRR D t3.heap.objs.size t6 m G5 (I3.call' (ch := fp) I6.os I6.base I6.hok I6.bare fun b hb => ⟨(f3 b hb).1.2.2.2.1, (f3 b hb).1.2.1, (f3 b hb).1.2.2.2.2.1, (f3 b hb).1.2.2.2.2.2⟩) fine (loc ▸ (show t6.heap.Ns en.locals m from hn)) (I3.fpOk (Nat.le_refl _) nC)
    refine thnF (T.item (X.blk t3 G3 sc en fp) rfl rfl rfl hc i [] t5 _ G5 (fun _ _ => False) I5 (stat I5 n5) tn5 go) fun r t6 ⟨u, er, h6⟩ => ?_
    subst er
    refine thnF h6 fun _ t7 ⟨x, G7, I7, r7, y7, tn7, n7⟩ => ?_
    refine thnF (pg.run _ t7 _ G7 x u _ (I7.pinned (stat I7 n7) (T.obj _ _ tn7)) r7 (step x G7 y7)) fun _ t8 ⟨τ, G8, I8, wτ, q8⟩ => ?_
    refine thnF (pt.run _ t8 τ G8 _ I8 q8) fun b t9 ⟨G9, I9, q9⟩ => ?_
    have last : ∀ {t' : Shared} {G' : Hp}, L2.Inv (X.blk t3 G3 sc en fp) ([] ++ pinsAt fp t7.heap) τ G' t' → Nx G' → ∃ m, m < n ∧ ∃ i G', L2.Inv (X.blk t3 G3 sc en fp) [] (wipe σ (own.map (·.2))) G' t' ∧ tn i t'.heap ∧ (∀ b ∈ fp, G' b = none) ∧ W i m G' := fun {t' G'} I' nx => by
      obtain ⟨m', lt, w'⟩ := less G' nx
      have held : ∀ b ∈ fp, ∀ o, t7.heap.get? b = some o → t'.heap.get? b = some o ∧ G' b = none := fun b hb o e => by
        have z := I'.pin (b, o) (List.mem_append_right _ (List.mem_append_right _ (mem_pinsAt hb e)))
        exact ⟨z.1, z.2.1⟩
      have len : (wipe σ (own.map (·.2))).length = τ.length := by rw [← wτ, wipe_length]
      refine ⟨m', lt, i + 1, G', (I'.unpinned (pins := [])).weak len (fun j v e => (wipe_some (wτ ▸ e)).1), T.keep _ _ _ tn7 fun b hb o e => (held b hb o e).1, fun b hb => ?_, w'⟩
      obtain ⟨o, e, _⟩ := T.obj _ _ tn7 b hb
      exact (held b hb o e).2
    cases b with
    | false =>
      rw [if_neg (by decide)] at q9 ⊢
      exact last I9 q9
    | true =>
      rw [if_pos rfl] at q9 ⊢
      exact pb _ τ G9 t9 D Nx _ _ I9 q9 fun t2 G2 I2 nx => last I2 nx
  exact hst _ _ _ _ _ whole (T.self X.A 0 _ _ _ tn4 whole)
end
end SG

set_option maxHeartbeats 2000000
/-! {text for ..}, {tuple: value for ..}, d.setdefault(tuple, x). -/
namespace SG
open PySem PySem.Spec PyProof.Rows L2
section
variable {P : Program} {w : World} {A : Around} {E : Value → Shared → Prop} {s : Shared}
theorem SetS.add {a : Addr} {l : List Str} {k : Str} {tk : Tok} {Q : Value → Shared → Prop} (R : SetS P w s.heap a l) (room : l.length + 1 < scanBound)
    (fin : ∀ h2, Heap.SameBut a s.heap h2 → SetS P w h2 a (if k ∈ l then l else k :: l) → Q .none { s with heap := h2, toks := s.toks + 1 }) : wpAny (model P w) A (call (.builtin "set.add") [.ref a, .str k tk]) Q E s := by
  have ty : s.TypeIs (.ref a) "set" := by
    obtain ⟨o, _, _, _, ho, hex, _⟩ := R
    exact ⟨o, ho, hex.1⟩
  refine wpAny_call_entry PySem.F.slot_set_add ty PySem.F.entry_set_add ?_ (PySem.F.args_set_add_2 _ _)
  unfold Builtin.«set.add» Builtin.Frozenset.oneOther Builtin.Frozenset.addrOf setAdd
  simp only [List.isEmpty_nil, bind_assoc]
  refine wpAny_bind (wpAny_pure ?_)
  try dsimp only
  refine wpAny_bind (wpAny_pure ?_)
  try dsimp only
  refine wpAny_bind (wpAny_holding (wpAny_bind ((PySem.strKind P w).pyHash (k := k) (strKind_is P w k tk) ?_)))
  refine SetS.put (s := { s with toks := s.toks + 1 }) R room fun h2 sb new => ?_
  change wpAny _ _ (ret Value.none) _ _ _
  exact wpAny_pure ⟨_, rfl, fin h2 sb new⟩
end
section
variable {X : Cx}
/-- a turn that puts a text into the set -/
def stTx (P : Program) (w : World) (te : TE) : L2.St → Hp → Addr → (Hp → Prop) → Prop := fun τ G D Nx => te τ G fun y G2 => ∃ (k : Str) (l : List Str), y = .str k ∧ G2 D = some (SetO2 P w D l) ∧ l.length ≤ 1000 ∧ Nx (upd G2 D (SetO2 P w D (if k ∈ l then l else k :: l)))
theorem pe_scTx {P : Program} {w : World} {ex tg iter : Expr} {ifs : List Expr} {sc : Scope} {own : List (Str × Nat)} {ps : Pos} {wi : TI} {g : TG} {tt : TT} {te : TE} (hc : X.calm = true) (hN : X.N.Nodup) (hi : PI X tg iter wi) (ok : BlkOk X.N X.env.scope sc own)
    (hg : ∀ (s : Shared) (H : Hp) (C : Addr) (cl : List (Str × Addr)) (fp : List Addr), PG (X.blk s H sc (compEnvC sc cl C X.env) fp) tg g)
    (ht : ∀ (s : Shared) (H : Hp) (C : Addr) (cl : List (Str × Addr)) (fp : List Addr), PTs (X.blk s H sc (compEnvC sc cl C X.env) fp) ifs tt)
    (he : ∀ (s : Shared) (H : Hp) (C : Addr) (cl : List (Str × Addr)) (fp : List Addr), PE (X.blk s H sc (compEnvC sc cl C X.env) fp) ex te)
    (hs : ∀ x, foldedSetIterable iter X.env x = pure x := by intro _; rfl) (eP : X.prog = P := by rfl) (ew : X.w = w := by rfl) :
    PE X (.SetComp ex [⟨tg, iter, ifs, 0⟩] sc ps) (tAny (fun D => SetO2 P w D []) wi g tt (stTx P w te) (own.map (·.2))) := by
  subst eP ew
  refine ⟨fun pins s σ H Q I h => ?_⟩
  rw [PpSet.eval_SetComp]
  refine any_core (bd := fun D en F E t => wpAny (model X.prog X.w) X.A (eval ex en) (fun x t1 => wpAny (model X.prog X.w) X.A (call (.builtin "set.add") [.ref D, x]) (fun _ t2 => F () t2) E t1) E t) hc hN I hi ok hg ht hs rfl
    (fun t G E Qv J hq => ?_) (fun it ac en R t => PpSet.codeAny_compStart_set) (fun it D en R J turn n t j => PpSet.compLoopS_any J turn n j) (fun t G C cl fp pins' τ G1 t1 D Nx F E J hst fin => ?_) h fun D C s' m H' I' q hn f => ⟨m, hn, fun h2 sb => ?_⟩
  · refine PpSet.newSet_ok (hq _ ?_)
    exact J.laid (t' := t.toks) (fun b o e => Heap.get?_push_of_some _ e) (Nat.le_refl _) (setO2_new SetS.fresh)
  · refine thnF ((he t G C cl fp).run _ t1 τ G1 _ J hst) fun x t2 ⟨y, G2, J2, r, k, l, ey, hD, hl, nx⟩ => ?_
    subst ey
    obtain ⟨tk, rfl⟩ := r
    have R : SetS X.prog X.w t2.heap D l := (J2.hok D _ hD).1
    refine SetS.add R (by unfold scanBound; omega) fun h2 sb new => ?_
    have there : ∃ u, h2.get? D = some u := by
      have ⟨o, _, _, _, ho, _⟩ := new
      exact ⟨o, ho⟩
    exact fin _ _ (J2.write (e := D) (t' := t2.toks + 1) (by rw [hD]; trivial) (.inl rfl) (fun b u hb hu => (sb.2 b hb).trans hu) there (setO2_new new)) nx
  · obtain ⟨f0, f1, f2, f3, f4, f5⟩ := f
    exact ⟨.ref D, H', I'.turned (t' := s'.toks) (fun b o hb e => (sb.2 b hb).trans e) f0 f1 f3 f4 f5, rfl, q⟩
/-- a turn that puts a value at a tuple -/
def stDT (tk tv : TE) : L2.St → Hp → Addr → (Hp → Prop) → Prop := fun τ G D Nx => tk τ G fun y G1 => tv τ G1 fun z G2 => ∃ (kvs : List (List L2.Key × V)) (k : List L2.Key) (b : Addr), y = .ref b ∧ G2 b = some (.tup (k.map kV)) ∧ G2 D = some (.dT kvs) ∧ kvs.length < sizeLine ∧ Nx (upd G2 D (.dT (putK kvs k z)))
theorem dT_set {pins : List (Addr × Obj)} {σ : L2.St} {H : Hp} {s : Shared} {E : Value → Shared → Prop} {D b : Addr} {kvs : List (List L2.Key × V)} {k : List L2.Key} {v : V} {r : Value} {Q : Unit → Shared → Prop} {Y : Cx} (I : L2.Inv Y pins σ H s) (hu : Y.A.units + 1 < cLine) (hD : H D = some (.dT kvs)) (hb : H b = some (.tup (k.map kV)))
    (hl : kvs.length < sizeLine) (rv : RelV v r) (h : ∀ s', L2.Inv Y pins σ (upd H D (.dT (putK kvs k v))) s' → Q () s') : wpAny (model Y.prog Y.w) Y.A (dictSet D (.ref b) r) Q E s := by
  obtain ⟨z, nm, xs, rel, dd⟩ := dt_of I.hok hD
  have big : xs.length ≤ sizeLine := by rw [← Paired.length rel]; exact z
  have grown : (putK kvs k v).length ≤ sizeLine := Nat.le_trans (length_putK kvs k v) hl
  refine wpAny_dictSet_heap (hsz := big) (show Y.A.units < cLine by omega) (key_of I.hok hb) dd fun h2 d2 sb => h _ ?_
  obtain ⟨o, es, ep, ho, g2, g3, g4, _, g5⟩ := d2
  exact d_write I (by rw [hD]; trivial) sb ⟨o, ho⟩ ⟨grown, nm, _, (rel.put k hb rv).keeps fun c ys ec => (upd_ne (ne_of ec hD nofun)).trans ec, o, es, ep, ho, g2, g3, g4, g5⟩
end
end SG

set_option maxHeartbeats 2000000
/-! Dicts with tuple keys: {tuple: value for ..}, d.setdefault(tuple, x). -/
namespace SG
open PySem PySem.Spec PyProof.Rows L2
section
variable {X : Cx}
theorem pe_dcT {kx vx tg iter : Expr} {ifs : List Expr} {sc : Scope} {own : List (Str × Nat)} {ps : Pos} {wi : TI} {g : TG} {tt : TT} {tk tv : TE} (hu : X.A.units + 1 < cLine) (hc : X.calm = true) (hN : X.N.Nodup) (hi : PI X tg iter wi) (ok : BlkOk X.N X.env.scope sc own)
    (hg : ∀ (s : Shared) (H : Hp) (C : Addr) (cl : List (Str × Addr)) (fp : List Addr), PG (X.blk s H sc (compEnvC sc cl C X.env) fp) tg g)
    (ht : ∀ (s : Shared) (H : Hp) (C : Addr) (cl : List (Str × Addr)) (fp : List Addr), PTs (X.blk s H sc (compEnvC sc cl C X.env) fp) ifs tt)
    (hk : ∀ (s : Shared) (H : Hp) (C : Addr) (cl : List (Str × Addr)) (fp : List Addr), PE (X.blk s H sc (compEnvC sc cl C X.env) fp) kx tk)
    (he : ∀ (s : Shared) (H : Hp) (C : Addr) (cl : List (Str × Addr)) (fp : List Addr), PE (X.blk s H sc (compEnvC sc cl C X.env) fp) vx tv)
    (hs : ∀ x, foldedSetIterable iter X.env x = pure x := by intro _; rfl) :
    PE X (.DictComp kx vx [⟨tg, iter, ifs, 0⟩] sc ps) (tAny (fun _ => .dT []) wi g tt (stDT tk tv) (own.map (·.2))) := by
  refine ⟨fun pins s σ H Q I h => ?_⟩
  rw [arm_eval_DictComp]
  refine any_core (bd := fun D en F E t => wpAny (model X.prog X.w) X.A (eval kx en) (fun y t1 => wpAny (model X.prog X.w) X.A (eval vx en) (fun z t2 => wpAny (model X.prog X.w) X.A (dictSet D y z) F E t2) E t1) E t) hc hN I hi ok hg ht hs rfl
    (fun t G E Qv J hq => ?_) (fun it ac en R t => codeAny_compStart_dict) (fun it D en R J turn n t j => compLoop_anyD J turn n j) (fun t G C cl fp pins' τ G1 t1 D Nx F E J hst fin => ?_) h fun D C s' m H' I' q hn f => ⟨m, hn, fun h2 sb => ?_⟩
  · exact wpAny_newObj_type (hq _ (J.laid (t' := t.toks) (fun b o e => Heap.get?_push_of_some _ e) (Nat.le_refl _) (dt_empty t.heap J.big)))
  · refine thnF ((hk t G C cl fp).run _ t1 τ G1 _ J hst) fun x t2 ⟨y, G2, J2, r, q2⟩ => ?_
    refine thnF ((he t G C cl fp).run _ t2 τ G2 _ J2 q2) fun x2 t3 ⟨z, G3, J3, r3, kvs, k, b, ey, hb, hD, hl, nx⟩ => ?_
    subst ey
    obtain rfl : x = Value.ref b := r
    exact dT_set (Y := X.blk t G sc (compEnvC sc cl C X.env) fp) J3 hu hD hb hl r3 fun t4 J4 => fin _ _ J4 nx
  · obtain ⟨f0, f1, f2, f3, f4, f5⟩ := f
    exact ⟨.ref D, H', I'.turned (t' := s'.toks) (fun b o hb e => (sb.2 b hb).trans e) f0 f1 f3 f4 f5, rfl, q⟩
end
section
variable {prog : Program} {w : World} {A : Around} {E : Value → Shared → Prop} {s : Shared} {K : Type} [DecidableEq K] {knd : HeapKind prog w K}
theorem setDef_heap {d a : Addr} {xs : List (K × Addr × Value)} {k : K} {v : Value} {Q : Value → Shared → Prop} (room : knd.room A) (key : knd.is s.heap k a) (D : s.heap.DictOfH knd d xs) (few : xs.length ≤ sizeLine)
    (old : ∀ p, atKey xs k = some p → ∀ tk, Q p.2 { s with toks := tk })
    (new : atKey xs k = none → ∀ h2 tk, h2.DictOfH knd d (xs ++ [(k, a, v)]) → Heap.SameBut d s.heap h2 → Q v { s with heap := h2, toks := tk }) : wpAny (model prog w) A (dictSetDefault d (.ref a) v) Q E s := by
  obtain ⟨o, es, ep, ho, ex, dt, en, is, nd⟩ := D
  have sz := size_of_entries en
  unfold dictSetDefault
  with_reducible refine wpAny_holding ?_
  refine wpAny_bind (knd.pyHash room key (wpAny_bind (wpAny_dictFind_heap (s := { s with toks := s.toks + knd.draws k }) room key ho dt en is nd (fun no => ?_) fun j p at_ => ?_)))
  · have nk := atKey_none_of_get no
    have fresh := not_mem_keys_of_get no
    refine wpAny_bind (wpAny_rule (wpAny_bind (wpAny_updateDictKeys (hz := by omega) (s := { s with toks := s.toks + knd.draws k }) ho dt (wpAny_pure ?_))))
    refine new nk _ _ ⟨_, _, ep + 1, Heap.get?_update_self _ ho (Obj.isFreed_of_dict (Obj.data_mapDictKeys dt _)), ex.mapDictKeys _, Obj.data_mapDictKeys dt _, by simp [en, entryOfKey], fun x hx => ?_, ?_⟩ (Heap.SameBut.update ..)
    · rcases List.mem_append.mp hx with g | g
      · exact knd.keeps (is x g) ho dt (Heap.SameBut.update ..)
      · obtain rfl := List.mem_singleton.mp g
        exact knd.keeps key ho dt (Heap.SameBut.update ..)
    · rw [List.map_append, List.nodup_append]
      exact ⟨nd, by simp, fun x hx y hy e => fresh (by simp only [List.map_cons, List.map_nil, List.mem_singleton] at hy; rw [← hy, ← e]; exact hx)⟩
  · refine wpAny_bind (wpAny_dictEntries (s := { s with toks := s.toks + knd.draws k }) ho dt ?_)
    rw [entry_at en j, at_]
    exact wpAny_bind (wpAny_rule (wpAny_pure (old p (atKey_of_get nd at_) _)))
theorem meetsSetd {d b : Addr} {k : K} (x : Value) (nm : (d == sysModules) = false) :
    MeetsIn prog w (Builtin.«dict.setdefault» ⟨[.ref d, .ref b, x], []⟩) (fun A R s => ∃ xs, knd.room A.in1 ∧ knd.is s.heap k b ∧ s.heap.DictOfH knd d xs ∧ xs.length ≤ sizeLine ∧ (∀ p, atKey xs k = some p → ∀ tk, R (.ok (.ret p.2)) { s with toks := tk }) ∧
      (atKey xs k = none → ∀ h2 tk, h2.DictOfH knd d (xs ++ [(k, b, x)]) → Heap.SameBut d s.heap h2 → R (.ok (.ret x)) { s with heap := h2, toks := tk })) :=
  .of_wp fun A R s ⟨xs, room, key, D, few, old, new⟩ => by
    unfold Builtin.«dict.setdefault»
    refine wpAny_bind ?_
    unfold Builtin.Dict.keyAndDefault
    refine wpAny_bind (wpAny_notOrdered_dict D.typeIs ?_)
    refine wpAny_pure ?_
    dsimp only
    rw [if_neg (by rw [nm]; exact Bool.false_ne_true)]
    exact wpAny_bind (setDef_heap room key D few (fun p hp tk => wpAny_pure ⟨_, rfl, old p hp tk⟩) fun hn h2 tk d2 sb => wpAny_pure ⟨_, rfl, new hn h2 tk d2 sb⟩)
end
section
variable {X : Cx} {o e f : Expr} {td ty tx : TE} {apos cpos : Pos}
/-- d.setdefault(y, z), y a tuple -/
def tDSetdT (td ty tx : TE) : TE := fun σ H Q => td σ H fun x H1 => ∃ a, x = .ref a ∧ IsD H1 a ∧ ty σ H1 fun y H2 => tx σ H2 fun z H3 => ∃ (kvs : List (List L2.Key × V)) (k : List L2.Key) (b : Addr), H3 a = some (.dT kvs) ∧ y = .ref b ∧ H3 b = some (.tup (k.map kV)) ∧ kvs.length < sizeLine ∧
  (∀ v, valV kvs k = some v → Q v H3) ∧ (valV kvs k = none → Q z (upd H3 a (.dT (putK kvs k z))))
theorem pe_dsetdT (hu : X.A.units + 1 < cLine) (ho : PE X o td) (he : PE X e ty) (hf : PE X f tx) (m : M2 X o "setdefault" apos e f cpos) : PE X (.Call (.Attribute o "setdefault" apos) [e, f] [] cpos) (tDSetdT td ty tx) := by
  refine ⟨fun pins s σ H Q I h => ?_⟩
  refine wpAny_Call_method m.base m.few m.line PySem.F.plainAttrs_dict PySem.F.slot_dict_setdefault PySem.F.type_dict_setdefault (thn (ho.run pins s σ H _ I h) fun u t1 ⟨x, H1, J1, rx, a, ex, isd, q1⟩ => ?_)
  subst ex
  obtain rfl : u = Value.ref a := rx
  obtain ⟨g1, g2, _⟩ := isD_at J1 isd
  refine ⟨g1, g2, ?_⟩
  rw [m.trees]
  refine Calls.callWith_builtin rfl (Calls.evalArgs_plain (Calls.spliced_cons (thn (he.run pins t1 σ H1 _ J1 q1) fun yv t2 ⟨y, H2, J2, ry, q2⟩ =>
    Calls.spliced_cons (thn (hf.run pins t2 σ H2 _ J2 q2) fun zv t3 ⟨z, H3, J3, rz, kvs, k, b, ha, ey, hb, hl, q3, q4⟩ => Calls.spliced_nil ?_))))
  subst ey
  obtain rfl : yv = Value.ref b := ry
  obtain ⟨lz, nm, xs, rel, dd⟩ := dt_of J3.hok ha
  have big : xs.length ≤ sizeLine := by rw [← Paired.length rel]; exact lz
  refine call_meetsIn PySem.F.slot_dict_setdefault dd.typeIs PySem.F.entry_dict_setdefault (PySem.F.args_dict_setdefault_3 _ _ _) (meetsSetd (knd := tupleKind (mixKind X.prog X.w)) (k := k) zv nm) ⟨xs, tupleKind_room_in1 hu, key_of J3.hok hb, dd, big, fun p hp tk => ?_, fun hn h2 tk d2 sb => ?_⟩
  · have r := rel.val k
    rw [hp] at r
    cases ev : valV kvs k with
    | none =>
      rw [ev] at r
      exact (show False from r).elim
    | some v0 =>
      rw [ev] at r
      exact ⟨v0, H3, J3.tok tk, r, q3 v0 ev⟩
  · have r := rel.val k
    rw [hn] at r
    cases ev : valV kvs k with
    | some v0 =>
      rw [ev] at r
      exact (show False from r).elim
    | none =>
      have grown : (putK kvs k z).length ≤ sizeLine := Nat.le_trans (length_putK kvs k z) hl
      have st : storedH xs k b zv = xs ++ [(k, b, zv)] := storedH_new hn b zv
      rw [← st] at d2
      obtain ⟨o2, es, ep, ho2, g3, g4, g5, _, g6⟩ := d2
      have J4 := d_write (t' := tk) J3 (by rw [ha]; trivial) sb ⟨o2, ho2⟩ (show ObjOk X.prog X.w _ _ a (.dT (putK kvs k z)) from ⟨grown, nm, _, (rel.put k hb rz).keeps fun c ys ec => (upd_ne (ne_of ec ha nofun)).trans ec, o2, es, ep, ho2, g3, g4, g5, g6⟩)
      exact ⟨z, _, J4, rz, q4 ev⟩
end
end SG

set_option maxHeartbeats 2000000
/-! Walking a list or a tuple, whichever it is; walking d.items() of a dict with tuple keys. -/
namespace SG
open PySem PySem.Spec PyProof.Rows L2
section
variable {X : Cx} {tg : Expr}
/-- a list, or a tuple -/
def iSeq (K : PySem.W.Frag) (tl : TE) : TI := fun σ H R => tl σ H fun x H1 => ∃ a, x = .ref a ∧ ((∃ xs, SqL K H1 a xs) ∧ R (Itl K a) H1 ∨ (∃ xs, SqT K H1 a xs) ∧ R (Itt K a) H1)
theorem pi_seq {K : PySem.W.Frag} {e : Expr} {te : TE} (he : PE X e te) (eK : X.K = K := by rfl) : PI X tg e (iSeq K te) := by
  subst eK
  refine ⟨fun pins s σ H R I h => thn (he.run pins s σ H _ I h) fun v t1 h1 => ?_⟩
  obtain ⟨x, H1, J, r, a, rfl, q⟩ := h1
  obtain rfl : v = Value.ref a := r
  rcases q with ⟨⟨xs, hx⟩, q⟩ | ⟨⟨xs, hx⟩, q⟩
  · obtain ⟨its, rv, p, hz⟩ := J.list hx
    exact wpAny_pyIter_list p.isList (pi_one (tk := t1.toks) J _ (turn_list a _) ⟨_, Heap.get?_push_size _ rfl, rfl, rfl⟩ q)
  · obtain ⟨its, rv, p, hz⟩ := J.tuple hx
    exact wpAny_pyIter_tuple (items := its.toArray) p (pi_one (tk := t1.toks) J _ (turn_tuple a _) ⟨_, Heap.get?_push_size _ rfl, rfl, rfl⟩ q)
end
section
variable {X : Cx} {pins : List (Addr × Obj)} {σ : L2.St} {H : Hp} {s : Shared} {d : Addr} {o : Obj}
/-- a locked dict with tuple keys: its entries -/
theorem frzT_vals {kvs : List (List L2.Key × V)} (I : L2.Inv X pins σ H s) (h : H d = some (.frz o (.dT kvs))) : (d == sysModules) = false ∧ ∃ (es : Array DictEntry) (ep : Nat), o.data = .dict es ep ∧ DT.Raw s.heap d es ep ∧ es.size = kvs.length ∧
    ∀ (i : Nat) (k : List L2.Key) (v : V), kvs[i]? = some (k, v) → ∃ (en : DictEntry) (q : Addr), es[i]? = some en ∧ en.key = .ref q ∧ H q = some (.tup (k.map kV)) ∧ RelV v en.val := by
  obtain ⟨at_, lz, nm, xs, pr, o2, es, ep, ho, ex, dt, en, nd⟩ := I.hok d _ h
  rw [at_] at ho
  cases ho
  refine ⟨nm, es, ep, dt, ⟨o, at_, ex, dt⟩, by rw [size_of_entries en, Paired.length pr], fun i k v e => ?_⟩
  obtain ⟨b, hb, e1, e2, e3⟩ := paired_get pr e
  refine ⟨_, b.2.1, by rw [entry_at en i, hb]; rfl, rfl, ?_, e3⟩
  rw [show k = b.1 from e1] at *
  exact e1 ▸ e2
/-- d.items(): new pairs of the key's own tuple and the value -/
def ItT (d : Addr) (o : Obj) (kvs : List (List L2.Key × V)) : It :=
  ⟨fun i H => H d = some (.frz o (.dT kvs)) ∧ i < kvs.length,
   fun i H x H' => ∃ (p q : Addr) (k : List L2.Key) (v : V), kvs[i]? = some (k, v) ∧ x = .ref p ∧ H p = none ∧ H q = some (.tup (k.map kV)) ∧ H' = upd H p (.tup [.ref q, v]),
   fun i H => H d = some (.frz o (.dT kvs)) ∧ kvs.length ≤ i⟩
theorem turn_itemsT {P : Program} {w : World} {K : PySem.W.Frag} {kvs : List (List L2.Key × V)} {es : Array DictEntry} {ep : Nat} {elts : List Expr} {kk : Nat} {tpos : Pos} (it : Addr) (dt : o.data = .dict es ep) :
    Turn P w K (.Tuple elts kk tpos) (ItT d o kvs) [it] it (fun i h => ∃ a b, IsItemIter h it d i kvs.length ep a b) where
  mem := List.mem_singleton.mpr rfl
  obj := fun i h ⟨a, b, e⟩ c hc => by
    rw [List.mem_singleton.mp hc]
    exact ⟨_, e, fun v z => nomatch z⟩
  keep := fun i h h2 ⟨a, b, e⟩ k => ⟨a, b, k it (List.mem_singleton.mpr rfl) _ e⟩
  item := by
    intro X hP hw hK hc i pins s σ H E I hf ⟨a, b, st⟩ ⟨hd, hi⟩
    subst hP hw hK
    obtain ⟨nm, es2, ep2, dt2, raw, sz, ent⟩ := frzT_vals I hd
    obtain ⟨rfl, rfl⟩ := dict_ep dt dt2
    obtain ⟨k, v, hkv⟩ : ∃ k v, kvs[i]? = some (k, v) := ⟨(kvs[i]).1, (kvs[i]).2, List.getElem?_eq_getElem hi⟩
    obtain ⟨en, q, hen, ek, hq, rv⟩ := ent i k v hkv
    rw [← sz] at st hi
    have ei : es2[i] = en := by
      rw [Array.getElem?_eq_getElem hi] at hen
      exact Option.some.inj hen
    have below : it < s.heap.objs.size := Heap.lt_size st
    refine DT.nextI st raw hi fun h2 out tup z2 kept => ⟨_, rfl, wpAny_letOwnedTupleGo_items (s := { s with heap := h2 }) out fun h3 st3 sb => ?_⟩
    have t3 : h3.get? s.heap.objs.size = some { cls := .type "tuple", data := .seq #[es2[i].key, es2[i].val] } := (sb.2 _ (Nat.ne_of_gt below)).trans tup
    rw [ei, ek] at t3
    have new : ObjOk X.prog X.w (upd H s.heap.objs.size (.tup [.ref q, v])) h3 s.heap.objs.size (.tup [.ref q, v]) := ⟨by show 2 ≤ sizeLine; decide, [.ref q, en.val], .cons rfl (.cons rv .nil), ⟨_, t3, rfl, _, rfl⟩⟩
    have J : L2.Inv X pins σ (upd H s.heap.objs.size (.tup [.ref q, v])) { s with heap := h3 } :=
      I.turnedNew (t' := s.toks) (ch := [it]) (fun b ob hb e => (sb.2 b (fun z => hb (List.mem_singleton.mpr z))).trans (kept b ob (fun z => hb (List.mem_singleton.mpr z)) e)) hf (Nat.le_refl _) new
    refine ⟨.ref s.heap.objs.size, _, J, rfl, ⟨_, q, k, v, hkv, rfl, I.hok.fresh (Nat.le_refl _), hq, rfl⟩, ⟨_, _, by rw [← sz]; exact st3⟩, fun b hb => ?_⟩
    rw [List.mem_singleton.mp hb, upd_ne (Nat.ne_of_lt below)]
    exact (hf it (List.mem_singleton.mpr rfl)).1
  done := by
    intro X hP hw hK hc i pins s σ H E I hf ⟨a, b, st⟩ ⟨hd, hi⟩
    subst hP hw hK
    obtain ⟨nm, es2, ep2, dt2, raw, sz, ent⟩ := frzT_vals I hd
    obtain ⟨rfl, rfl⟩ := dict_ep dt dt2
    obtain ⟨f0, f1, f2, f3, f4, f5⟩ := hf it (List.mem_singleton.mpr rfl)
    rw [← sz] at st hi
    exact DT.endI (I.ok.hd hc) st raw hi fun h2 eb => ⟨rfl, I.turned (t' := s.toks) (fun b ob hb e => eb b ob hb e) f0 f1 f3 f4 f5⟩
  self := fun A i s Q E ⟨_, _, e⟩ h => PySem.W.kcp_self e h
def iItemsT (td : TE) : TI := fun σ H R => td σ H fun x H1 => ∃ (d : Addr) (o : Obj) (kvs : List (List L2.Key × V)), x = .ref d ∧ H1 d = some (.frz o (.dT kvs)) ∧ R (ItT d o kvs) H1
theorem pi_itemsT {e : Expr} {td : TE} {apos cpos : Pos} {elts : List Expr} {kk : Nat} {tpos : Pos} (he : PE X e td) (hb : attributeBase e "items" X.env (eval e X.env) = eval e X.env := by rfl) (hl : (apos.endLine == cpos.line) = true := by rfl) :
    PI X (.Tuple elts kk tpos) (.Call (.Attribute e "items" apos) [] [] cpos) (iItemsT td) := by
  refine ⟨fun pins s σ H R I h => wpAny_Call_method (T := "dict") (id := "dict.items") hb rfl hl PySem.F.plainAttrs_dict PySem.F.slot_dict_items PySem.F.type_dict_items (thn (he.run pins s σ H _ I h) fun u t1 h1 => ?_)⟩
  obtain ⟨x, H1, J, r, d, o, kvs, rfl, hd, q⟩ := h1
  obtain rfl : u = Value.ref d := r
  obtain ⟨nm, es, ep, dt, raw, sz, ent⟩ := frzT_vals J hd
  have ty := raw.typeIs (s := t1)
  obtain ⟨o1, ho1, ex1, _⟩ := id raw
  refine ⟨ty, fun a e => by injection e with e; exact ⟨o1, e ▸ ho1, ex1.2.1⟩, ?_⟩
  have J2 : L2.Inv X pins σ H1 { t1 with heap := t1.heap.push { cls := .type "dict_items", data := .fields #[.ref d] } } := J.kept (t' := t1.toks) fun b ob q => Heap.get?_push_of_some _ q
  have go : wpAny (model X.prog X.w) X.A (pyIter (.ref t1.heap.objs.size)) (PIE X pins σ (.Tuple elts kk tpos) R) X.xe { t1 with heap := t1.heap.push { cls := .type "dict_items", data := .fields #[.ref d] } } := by
    refine DT.iterI (d := d) (es := es) (ep := ep) ⟨_, Heap.get?_push_size _ rfl, rfl, rfl⟩ (raw.push _) (pi_one (tk := t1.toks) J2 _ (turn_itemsT _ dt) ⟨.none, .none, ?_⟩ q)
    rw [← sz]
    exact Heap.get?_push_size _ rfl
  change wpAny _ _ (callWith cpos (.builtin "dict.items") [.ref d] [] []) _ X.xe t1
  exact method_meetsIn PySem.F.slot_dict_items PySem.F.entry_dict_items rfl (PySem.evalArgs_none ⟨rfl, ty, PySem.F.args_dict_items_1 _, _, DT.meetsItems (es := es) (ep := ep) nm, raw, go⟩)
theorem walk_itemsT {kvs : List (List L2.Key × V)} : Walk (ItT d o kvs) kvs.length (fun H => H d = some (.frz o (.dT kvs))) (fun i H x H' => ∃ (p q : Addr) (k : List L2.Key) (v : V), kvs[i]? = some (k, v) ∧ x = .ref p ∧ H p = none ∧ H q = some (.tup (k.map kV)) ∧ H' = upd H p (.tup [.ref q, v])) :=
  ⟨fun _ _ hi q => ⟨q, hi⟩, fun _ q => ⟨q, Nat.le_refl _⟩, fun _ _ _ _ _ _ y => y⟩
end
end SG

/-! d < e of data of one shape. -/
namespace SG
open PySem PySem.Spec PyProof.Rows L2
def rLtD (K : PySem.W.Frag) : R2 := fun x y H Q => ∃ d e, Dp K H x d ∧ Dp K H y e ∧ PySem.W.alike d e = true ∧ d ≠ .none ∧ d.depth ≤ 60 ∧ Q (.bl (PySem.W.dataLt d e)) H
theorem op_ltD {X : Cx} {K : PySem.W.Frag} (hu : X.A.units + 64 < cLine) (eK : X.K = K := by rfl) : OpR X (compareOp .Lt) (rLtD K) := by
  subst eK
  intro pins s σ H x y v u Q I rx ry h
  obtain ⟨d, e, hd, he, al, nn, dep, q⟩ := h
  obtain ⟨as, ra⟩ := hd.reads I _ _ _ rx
  obtain ⟨bs, rb⟩ := he.reads I _ _ _ ry
  refine PySem.W.lt_data ra rb al nn (by have := Nat.min_le_left d.depth e.depth; omega) ⟨.bl _, H, I, rfl, q⟩
end SG

set_option maxHeartbeats 2000000
/-! Walking the keys of a dict that the walked expression itself makes: it is locked when it is walked. -/
namespace SG
open PySem PySem.Spec PyProof.Rows L2
section
variable {X : Cx} {tg e : Expr} {td : TE}
def iKeysL (td : TE) : TI := fun σ H R => td σ H fun x H1 => ∃ (d : Addr) (kvs : List (L2.Key × V)), x = .ref d ∧ H1 d = some (.dK kvs) ∧ ∀ o, R (Itk d o kvs) (upd H1 d (.frz o (.dK kvs)))
theorem pi_keysL (he : PE X e td) : PI X tg e (iKeysL td) := by
  refine ⟨fun pins s σ H R I h => ?_⟩
  refine thn (he.run pins s σ H _ I h) fun u s1 ⟨x, H1, I1, rx, d, kvs, ex, hd, q⟩ => ?_
  subst ex
  obtain rfl : u = Value.ref d := rx
  obtain ⟨o, I2⟩ := I1.lock hd trivial
  obtain ⟨hs, hgd, hx, es, ep, vs, hdt, hsz, kv, hm⟩ := I2.frzK upd_same
  refine iter_keys hs hgd hx hdt (pi_one (tk := s1.toks) I2 _ (turn_keys _ hdt) ⟨_, Heap.get?_push_size _ rfl, rfl, ?_⟩ (q o))
  rw [hsz] <;> rfl
end
end SG

/-! > of data, sorted of data -/
namespace SG
open PySem PySem.Spec PyProof.Rows L2
def rGtD (K : PySem.W.Frag) : R2 := fun x y H Q => ∃ d e, Dp K H x d ∧ Dp K H y e ∧ PySem.W.alike d e = true ∧ d ≠ .none ∧ d.depth ≤ 60 ∧ Q (.bl (PySem.W.dataLt e d)) H
theorem op_gtD {X : Cx} {K : PySem.W.Frag} (hu : X.A.units + 64 < cLine) (eK : X.K = K := by rfl) : OpR X (compareOp .Gt) (rGtD K) := by
  subst eK
  intro pins s σ H x y v u Q I rx ry h
  obtain ⟨d, e, hd, he, al, nn, dep, q⟩ := h
  obtain ⟨as, ra⟩ := hd.reads I _ _ _ rx
  obtain ⟨bs, rb⟩ := he.reads I _ _ _ ry
  refine PySem.W.gt_data ra rb al nn (by have := Nat.min_le_left d.depth e.depth; omega) ⟨.bl _, H, I, rfl, q⟩
theorem each_of_vals : ∀ {bs : List (V × PyData)} {its : List Value}, Vals (bs.map (·.1)) its → PySem.W.EachIs (fun (v : Value) (b : V × PyData) => RelV b.1 v) its bs
  | [], _, r => by
    have r' : Vals [] _ := r
    cases r'
    exact .nil
  | b :: bs, _, r => by
    have r' : Vals (b.1 :: bs.map (·.1)) _ := r
    cases r' with
    | cons h1 h2 => exact .cons h1 (each_of_vals h2)
theorem vals_of_each : ∀ {bs : List (V × PyData)} {its : List Value}, PySem.W.EachIs (fun (v : Value) (b : V × PyData) => RelV b.1 v) its bs → Vals (bs.map (·.1)) its
  | _, _, .nil => .nil
  | _, _, .cons h1 h2 => .cons h1 (vals_of_each h2)
/-- sorted(xs), the items read as data of one kind -/
def rSortedD (K : PySem.W.Frag) : List V → Hp → VK → Prop := fun vs H Q => ∃ (a : Addr) (bs : List (V × PyData)), vs = [.ref a] ∧ SqL K H a (bs.map (·.1)) ∧ (∀ b ∈ bs, Dp K H b.1 b.2 ∧ b.2.depth ≤ 50) ∧ PySem.W.AllAlike (bs.map (·.2)) ∧ PySem.W.Sortable (bs.map (·.2)) ∧
  ∀ p, H p = none → Q (.ref p) (upd H p (.lst ((bs.mergeSort (PySem.W.dataLe false (·.2))).map (·.1))))
theorem cr_sortedD {X : Cx} {K : PySem.W.Frag} (hu : X.A.units + 64 < cLine) (eK : X.K = K := by rfl) : CallR X (.builtin "sorted") (rSortedD K) := by
  subst eK
  intro pins s σ H vs us Q I r h
  obtain ⟨a, bs, rfl, hs, hx, al, so, q⟩ := h
  obtain ⟨its, rv, hl, hz⟩ := I.list hs
  obtain ⟨u, rfl, ru⟩ := vals1 r
  obtain rfl : u = Value.ref a := ru
  rw [List.length_map] at hz
  have e := each_of_vals rv
  refine PySem.W.sorted_data (enc := (·.2)) hl.isList e ((PySem.W.each_mem e).mono fun v b ⟨r, hb⟩ => (hx b hb).1.reads I _ _ _ r) al so hz (fun b hb => by have := (hx b hb).2; omega) fun out ho h2 => ?_
  have hd : s.heap.objs.size ≤ s.heap.objs.size + 1 := Nat.le_succ _
  obtain ⟨n, hn⟩ := sortedAll_at s.heap its out.toArray
  refine ⟨.ref (s.heap.objs.size + 1), upd H (s.heap.objs.size + 1) (.lst ((bs.mergeSort (PySem.W.dataLe false (·.2))).map (·.1))), I.laid (t' := s.toks) (fun b o e => sortedAll_old e) hd ⟨?_, out, n, vals_of_each h2, hn⟩, rfl, q _ (I.hok.fresh hd)⟩
  rw [List.length_map, List.length_mergeSort]
  exact hz
theorem and_key {b : Bool} {c2 : TT} {σ : L2.St} {H : Hp} {R : Bool → Hp → Prop} (Pz : Bool → Hp → Prop) (key : ∀ b H5, Pz b H5 → R b H5) (h1 : b = true → (∀ b H5, Pz b H5 → R b H5) → c2 σ H R) (h2 : b = false → Pz false H) : if b = true then c2 σ H R else R false H := by
  cases b with
  | true => exact ifT rfl (h1 rfl key)
  | false => exact ifF rfl (key _ _ (h2 rfl))
theorem or_key {b : Bool} {c2 : TT} {σ : L2.St} {H : Hp} {R : Bool → Hp → Prop} (Pz : Bool → Hp → Prop) (key : ∀ b H5, Pz b H5 → R b H5) (h1 : b = false → (∀ b H5, Pz b H5 → R b H5) → c2 σ H R) (h2 : b = true → Pz true H) : if b = true then R true H else c2 σ H R := by
  cases b with
  | true => exact ifT rfl (key _ _ (h2 rfl))
  | false => exact ifF rfl (h1 rfl key)
theorem ifs_key {b : Bool} {t u : Prop} (h1 : b = true → t) (h2 : b = false → u) : if b = true then t else u := by
  cases b with
  | true => exact ifT rfl (h1 rfl)
  | false => exact ifF rfl (h2 rfl)
theorem te_key {b : Bool} {A B : TE} {σ : L2.St} {H : Hp} {R : VK} (Pz : V → Hp → Prop) (key : ∀ x H5, Pz x H5 → R x H5) (hA : b = true → (∀ x H5, Pz x H5 → R x H5) → A σ H R) (hB : b = false → (∀ x H5, Pz x H5 → R x H5) → B σ H R) : if b = true then A σ H R else B σ H R := by
  cases b with
  | true => exact ifT rfl (hA rfl key)
  | false => exact ifF rfl (hB rfl key)
end SG

namespace SG
open PySem PySem.Spec PyProof.Rows L2
/-- drawn things, up to m turns each -/
theorem lc_upto {d l D : Addr} {c m n s : Nat} {te : TE} {σ : L2.St} {H1 : Hp} {Qd : Hp → Prop} {B : V → Prop} (D0 : Dek H1 d l c) (hD : H1 D = none) (hn : n ≤ 1000)
    (turn : ∀ (i c2 : Nat) (H2 : Hp), i < n → c2 ≤ c + m * i → Dek H2 d l c2 → Kept d l H1 H2 → ∀ R : VK, (∀ (x : V) (c3 : Nat) (H3 : Hp), B x → c3 ≤ c2 + m → Dek H3 d l c3 → Kept d l H2 H3 → R x H3) → te ((wipe σ [s]).set s (some (.int (0 + i)))) H2 R)
    (done : ∀ (xs : List V) (c2 : Nat) (H2 : Hp), xs.length = n → (∀ x ∈ xs, B x) → H2 D = some (.lst xs) → c2 ≤ c + m * n → Dek H2 d l c2 → Kept d l H1 H2 → Qd H2) :
    ∃ W : Nat → Nat → Hp → Prop, (∃ m, W 0 m (upd H1 D (.lst []))) ∧ ∀ i m H, W i m H →
      ((Itr 0 n).stop i H ∧ Qd H) ∨ ((Itr 0 n).go i H ∧ ∃ Nx : Hp → Prop, (∀ H2, Nx H2 → ∃ m2, m2 < m ∧ W (i + 1) m2 H2) ∧ ∀ x H2, (Itr 0 n).yld i H x H2 → gName s x (wipe σ [s]) H2 fun σ2 H3 => wipe σ2 [s] = wipe σ [s] ∧ tYes σ2 H3 fun b H4 =>
        if b = true then te σ2 H4 fun y H5 => ∃ acc, H5 D = some (.lst acc) ∧ acc.length < sizeLine ∧ Nx (upd H5 D (.lst (acc ++ [y]))) else Nx H4) := by
  obtain ⟨nd, nl⟩ := D0.ne hD
  refine lc_range (fun i H2 => ∃ (xs : List V) (c2 : Nat), xs.length = i ∧ (∀ x ∈ xs, B x) ∧ H2 D = some (.lst xs) ∧ c2 ≤ c + m * i ∧ Dek H2 d l c2 ∧ Kept d l H1 H2) ?_ ?_ ?_
  · exact ⟨[], c, rfl, (fun _ h => absurd h List.not_mem_nil), upd_same, Nat.le_add_right _ _, D0.upd hD, .of (same_new hD)⟩
  · rintro i H2 hi ⟨xs, c2, hx, hB, hD2, hc2, D2, k2⟩
    refine ⟨wipe1 _ _ _, ?_⟩
    refine yesI ?_
    refine turn i c2 H2 hi hc2 D2 k2 _ fun x c3 H3 hb h3 D3 k3 => ⟨xs, k3 _ _ hD2 nd nl, ?_, xs ++ [x], c3, by simp [hx], fun y hy => ?_, upd_same, ?_, ?_, ?_⟩
    · rw [hx]
      exact Nat.lt_of_lt_of_le (show i < 5000 by omega) (by decide)
    · rcases List.mem_append.mp hy with z | z
      · exact hB y z
      · rw [List.mem_singleton.mp z]; exact hb
    · rw [Nat.mul_succ]; omega
    · obtain ⟨cs, m2, n2, h1, h2, r⟩ := D3
      exact ⟨cs, m2, n2, (upd_ne (Ne.symm nd)).trans h1, (upd_ne (Ne.symm nl)).trans h2, r⟩
    · intro b o e h1 h2
      by_cases hb : b = D
      · rw [hb, hD] at e
        exact nomatch e
      · rw [upd_ne hb]
        exact (k2.trans k3) b o e h1 h2
  · rintro H2 ⟨xs, c2, hx, hB, hD2, hc2, D2, k2⟩
    exact done xs c2 H2 hx hB hD2 hc2 D2 k2
end SG

/-! Data in which dicts of at most one text stand, at any depth: repr of a list of it. -/
namespace SG
open PySem PySem.Spec PyProof.Rows L2
mutual
/-- v is the data d, in which dicts are empty, or have one text as key -/
inductive Dz (K : PySem.W.Frag) (H : Hp) : V → PyData → Prop
  | non : Dz K H .non .none
  | bl (b : Bool) : Dz K H (.bl b) (.bool b)
  | int (i : Int) : Dz K H (.int i) (.int i)
  | str (t : Str) : Dz K H (.str t) (.str t)
  | lst {p : Addr} {xs : List V} {es : List PyData} (hq : SqL K H p xs) (ha : DzAll K H xs es) : Dz K H (.ref p) (.list es)
  | tup {p : Addr} {xs : List V} {es : List PyData} (hq : SqT K H p xs) (ha : DzAll K H xs es) : Dz K H (.ref p) (.tuple es)
  | dct {p : Addr} (hp : H p = some (.dK [])) : Dz K H (.ref p) (.dict [])
  | one {p : Addr} {k : Str} {x : V} {e : PyData} (hp : H p = some (.dK [(Sum.inr k, x)])) (hx : Dz K H x e) : Dz K H (.ref p) (.dict [(.str k, e)])
inductive DzAll (K : PySem.W.Frag) (H : Hp) : List V → List PyData → Prop
  | nil : DzAll K H [] []
  | cons {x : V} {xs : List V} {e : PyData} {es : List PyData} (hx : Dz K H x e) (ht : DzAll K H xs es) : DzAll K H (x :: xs) (e :: es)
end
section
variable {K : PySem.W.Frag} {H H2 : Hp} {x : V} {d : PyData}
mutual
theorem dz_same (s : Same H H2) : ∀ {x : V} {d : PyData}, Dz K H x d → Dz K H2 x d
  | _, _, .non => .non
  | _, _, .bl b => .bl b
  | _, _, .int i => .int i
  | _, _, .str t => .str t
  | _, _, .lst q a => .lst (s.seq q) (dzA_same s a)
  | _, _, .tup q a => .tup (sameT s q) (dzA_same s a)
  | _, _, .dct h => .dct (s _ _ h)
  | _, _, .one h a => .one (s _ _ h) (dz_same s a)
theorem dzA_same (s : Same H H2) : ∀ {xs : List V} {ds : List PyData}, DzAll K H xs ds → DzAll K H2 xs ds
  | _, _, .nil => .nil
  | _, _, .cons a b => .cons (dz_same s a) (dzA_same s b)
end
theorem dz_ty (h : Dz K H x d) : TyX K H x (.type (kindOf d)) := by
  cases h with
  | non => exact .base .non
  | bl b => exact .base (.bl b)
  | int i => exact .base (.int i)
  | str s => exact .base (.str s)
  | dct h => exact .base (.dK h)
  | one h _ => exact .base (.dK h)
  | lst s _ =>
    rcases s with (s | ⟨o, s⟩) | ⟨o, vs, n, s, c, _⟩
    · exact .base (.lst s)
    · exact .base (.frz s)
    · exact .kList s c
  | tup s _ =>
    rcases s with (s | ⟨o, s⟩) | ⟨o, vs, n, s, c, _⟩
    · exact .base (.tup s)
    · exact .fTuple s
    · exact .kTuple s c
end
mutual
/-- whole numbers of at most 4300 figures; dicts as above -/
def tellZ : PyData → Bool
  | .int i => decide (i.natAbs < 10 ^ 4300)
  | .list xs => tellZAll xs
  | .tuple xs => tellZAll xs
  | .dict kvs => tellZKv kvs
  | .none => true
  | .bool _ => true
  | .str _ => true
def tellZAll : List PyData → Bool
  | [] => true
  | x :: xs => tellZ x && tellZAll xs
def tellZKv : List (PyData × PyData) → Bool
  | [] => true
  | (a, b) :: r => tellZ a && tellZ b && tellZKv r
end
section
variable {X : Cx} {pins : List (Addr × Obj)} {σ : L2.St} {H : Hp} {s : Shared}
theorem one_at {a : Addr} {k : Str} {x : V} (I : Inv X pins σ H s) (ha : H a = some (.dK [(Sum.inr k, x)])) : (a == sysModules) = false ∧ ∃ o n e t u, s.heap.get? a = some o ∧ o.cls = .type "dict" ∧ o.data = .dict #[e] n ∧ e.key = .str k t ∧ e.val = u ∧ RelV x u := by
  obtain ⟨_, hs, vs, kv, o, es, ep, e1, e2, e3, e4, e5, _⟩ := I.hok a _ ha
  cases kv with
  | cons h1 ht =>
    cases ht
    rename_i b _
    obtain ⟨c1, c2⟩ := h1
    cases es with
    | mk l =>
      cases l with
      | nil => cases e5
      | cons e l =>
        cases e5 with
        | cons k1 k2 k3 =>
          cases k3
          rw [← show Sum.inr k = b.1 from c1] at k1
          rcases keyIs_shape (show keyIs (Sum.inr k) e.key = true from k1) with ⟨i, t, z, _⟩ | ⟨y, t, z, ek⟩
          · exact nomatch z
          · injection z with z
            exact ⟨hs, o, ep, e, t, b.2, e1, e2.1, e3, z ▸ ek, k2, c2⟩
mutual
theorem dz_told (hn : s.heap.NoDigits) (I : Inv X pins σ H s) : ∀ (d : PyData) (v : V) (u : Value), Dz X.K H v d → RelV v u →
    ∃ as, Reads s.heap u d as ∧ (tellZ d = true → d.shown.length ≤ sizeLine → ∃ bs, ReadAtMost s.heap d.depth bs ∧ ReprK X.prog X.w bs s.heap d.depth u d.shown)
  | .none, _, _, h, r => by
    cases h
    cases r
    exact ⟨_, .none, fun _ _ => ⟨[], (fun _ h => nomatch h), by simp only [PyData.shown]; exact .of_is ReprIs.none _ _ _⟩⟩
  | .bool b, _, _, h, r => by
    cases h
    cases r
    exact ⟨_, .bool b, fun _ _ => ⟨[], (fun _ h => nomatch h), by simp only [PyData.shown]; exact .of_is (ReprIs.bool b) _ _ _⟩⟩
  | .int i, _, _, h, r => by
    cases h
    obtain ⟨t, rfl⟩ := r
    exact ⟨_, .int i t, fun ht _ => ⟨[], (fun _ h => nomatch h), by simp only [PyData.shown]; exact reprK_int hn (of_decide_eq_true (by simpa only [tellZ] using ht)) _⟩⟩
  | .str x, _, _, h, r => by
    cases h
    obtain ⟨t, rfl⟩ := r
    exact ⟨_, .str x t, fun _ hz => ⟨[], (fun _ h => nomatch h), by simp only [PyData.shown] at hz ⊢; exact .of_is (ReprIs.str x t hz) _ _ _⟩⟩
  | .list ds, _, _, h, r => by
    cases h with
    | lst hs ha =>
      rename_i p xs
      cases r
      obtain ⟨its, rv, ⟨o, n, ho, hc, hw, hd⟩, _⟩ := I.list hs
      obtain ⟨as, q4, hk⟩ := dzA_told hn I ds _ its ha rv
      have whole : Reads s.heap (.ref p) (.list ds) _ := .list ho hc hd q4
      refine ⟨_, whole, fun ht hz => ?_⟩
      have hz2 : (listText (PyData.shownAll ds)).length ≤ sizeLine := by simpa only [PyData.shown] using hz
      obtain ⟨bs, rb, kb⟩ := hk (by simpa only [tellZ] using ht) fun t m => Nat.le_trans (listText_mem_le m) hz2
      refine ⟨p :: bs, ReadAtMost.cons whole (by simp only [PyData.depth]; omega) rb, ?_⟩
      have notIn : p ∉ bs := not_mem_of_deeper whole (by simp only [PyData.depth]; omega) rb
      simp only [PyData.depth, PyData.shown]
      cases its with
      | nil =>
        cases q4
        simp only [PyData.shownAll, listText_nil]
        exact ReprK.listEmpty ho hc hd
      | cons y l => exact ReprK.list ho hc hd notIn (by simpa using kb.length_eq) fun i y e => kb.item i y (by simpa using e)
  | .tuple ds, _, _, h, r => by
    cases h with
    | tup hs ha =>
      rename_i p xs
      cases r
      obtain ⟨its, rv, ⟨o, ho, hc, n, hd⟩, _⟩ := I.tuple hs
      obtain ⟨as, q4, hk⟩ := dzA_told hn I ds _ its ha rv
      have whole : Reads s.heap (.ref p) (.tuple ds) _ := .tuple ho hc hd q4
      refine ⟨_, whole, fun ht hz => ?_⟩
      have hz2 : (tupleText (PyData.shownAll ds)).length ≤ sizeLine := by simpa only [PyData.shown] using hz
      obtain ⟨bs, rb, kb⟩ := hk (by simpa only [tellZ] using ht) fun t m => Nat.le_trans (tupleText_mem_le m) hz2
      refine ⟨p :: bs, ReadAtMost.cons whole (by simp only [PyData.depth]; omega) rb, ?_⟩
      have notIn : p ∉ bs := not_mem_of_deeper whole (by simp only [PyData.depth]; omega) rb
      simp only [PyData.depth, PyData.shown]
      exact ReprK.tuple ho hc hd notIn (by simpa using kb)
  | .dict kvs, _, _, h, r => by
    cases h with
    | dct hp =>
      rename_i p
      cases r
      obtain ⟨hs, o, n, h1, h2, h3⟩ := dct_at I hp
      have whole : Reads s.heap (.ref p) (.dict []) ([p] ++ []) := .dict (as := []) (bs := []) h1 h2 h3 .nil .nil
      refine ⟨_, whole, fun _ _ => ⟨[p], ReadAtMost.cons whole (Nat.le_refl _) (fun _ h => nomatch h), ?_⟩⟩
      have z := ReprK.dict (prog := X.prog) (w := X.w) (as := []) (d := 0) (ps := []) h1 h2 h3 hs (by simp) .nil
      simp only [PyData.depth, PyData.depthKv, PyData.shown, PyData.shownKv]
      exact z
    | one hp hx =>
      rename_i p k x e
      cases r
      obtain ⟨hs, o, n, en, t, u, h1, h2, h3, h4, h5, h6⟩ := one_at I hp
      obtain ⟨as, q4, hk⟩ := dz_told hn I e _ u hx h6
      have whole : Reads s.heap (.ref p) (.dict [(.str k, e)]) ([p] ++ [] ++ (as ++ [])) := .dict (as := [] ++ []) (bs := as ++ []) h1 h2 h3 (by
        show ReadsAll s.heap [en.key] [.str k] _
        rw [h4]
        exact .cons (.str k t) .nil) (by
        show ReadsAll s.heap [en.val] [e] _
        rw [h5]
        exact .cons q4 .nil)
      refine ⟨_, whole, fun ht hz => ?_⟩
      have ht2 : tellZ e = true := by simpa [tellZ, tellZKv] using ht
      have hz2 : (PyData.shown (.str k)).length ≤ sizeLine ∧ e.shown.length ≤ sizeLine := by
        have z := piled_le_dictText (PyData.shownKv [(.str k, e)])
        have hz3 : (dictText (PyData.shownKv [(.str k, e)])).length ≤ sizeLine := by simpa only [PyData.shown] using hz
        have y : PyData.shownKv [(.str k, e)] = [PyData.shown (.str k) ++ ": " ++ e.shown] := by simp only [PyData.shownKv]
        rw [y] at z hz3
        rw [piled_cons, piled_nil, PySem.strLen_append, PySem.strLen_append] at z
        omega
      obtain ⟨bs, rb, kb⟩ := hk ht2 hz2.2
      refine ⟨p :: bs, ReadAtMost.cons whole (Nat.le_refl _) (rb.mono (by simp only [PyData.depth, PyData.depthKv]; omega)), ?_⟩
      have notIn : p ∉ bs := not_mem_of_deeper whole (by simp only [PyData.depth, PyData.depthKv]; omega) rb
      have z := ReprK.dict (prog := X.prog) (w := X.w) (as := bs) (d := e.depth) (ps := [PyData.shown (.str k) ++ ": " ++ e.shown]) h1 h2 h3 hs notIn (.cons (by
        rw [h4]
        exact .of_is (ReprIs.str k t (by simpa only [PyData.shown] using hz2.1)) _ _ _) (by
        rw [h5]
        exact kb) .nil)
      have ed : PyData.depth (.dict [(.str k, e)]) = e.depth + 1 := by simp only [PyData.depth, PyData.depthKv]; omega
      rw [ed]
      simp only [PyData.shown, PyData.shownKv] at z ⊢
      exact z
theorem dzA_told (hn : s.heap.NoDigits) (I : Inv X pins σ H s) : ∀ (ds : List PyData) (vs : List V) (us : List Value), DzAll X.K H vs ds → Vals vs us →
    ∃ as, ReadsAll s.heap us ds as ∧ (tellZAll ds = true → (∀ t ∈ PyData.shownAll ds, t.length ≤ sizeLine) → ∃ bs, ReadAtMost s.heap (PyData.depthAll ds) bs ∧ ReprAllK X.prog X.w bs s.heap (PyData.depthAll ds) us (PyData.shownAll ds))
  | [], _, _, h, r => by
    cases h
    cases r
    exact ⟨_, .nil, fun _ _ => ⟨[], (fun _ h => nomatch h), by simp only [PyData.shownAll]; exact .nil⟩⟩
  | d :: ds, _, _, h, r => by
    cases h with
    | cons h1 h2 =>
      cases r with
      | cons r1 r2 =>
        obtain ⟨as1, q1, k1⟩ := dz_told hn I d _ _ h1 r1
        obtain ⟨as2, q2, k2⟩ := dzA_told hn I ds _ _ h2 r2
        refine ⟨_, .cons q1 q2, fun ht hz => ?_⟩
        have ht2 : tellZ d = true ∧ tellZAll ds = true := by simpa only [tellZAll, Bool.and_eq_true] using ht
        obtain ⟨c1, rc1, e1⟩ := k1 ht2.1 (hz _ (by simp only [PyData.shownAll]; exact List.mem_cons_self))
        obtain ⟨c2, rc2, e2⟩ := k2 ht2.2 fun t m => hz t (by simp only [PyData.shownAll]; exact List.mem_cons_of_mem _ m)
        refine ⟨c1 ++ c2, (rc1.mono ?_).append (rc2.mono ?_), ?_⟩
        · simp only [PyData.depthAll]; exact Nat.le_max_left _ _
        · simp only [PyData.depthAll]; exact Nat.le_max_right _ _
        · simp only [PyData.depthAll, PyData.shownAll]
          exact .cons ((e1.more fun b m => List.mem_append_left _ m).level_le (Nat.le_max_left _ _)) (e2.more_le (fun b m => List.mem_append_right _ m) (Nat.le_max_right _ _))
end
end
section
variable {X : Cx}
/-- repr of a list of such data -/
def rReprZ (K : PySem.W.Frag) : List V → Hp → VK → Prop := fun xs Hx R => ∃ (a : Addr) (ys : List V) (ds : List PyData), xs = [.ref a] ∧ SqL K Hx a ys ∧ DzAll K Hx ys ds ∧ tellZAll ds = true ∧ PyData.depthAll ds ≤ 59 ∧ (PyData.list ds).shown.length ≤ sizeLine ∧ R (.str (PyData.list ds).shown) Hx
theorem call_reprZ (hn : X.base.NoDigits) (hg : X.A.guards = some []) {k : Nat} (hr : Room k X.A) : CallR X (.builtin "repr") (rReprZ X.K) := by
  intro pins st σ Hx xs us R I rv h
  obtain ⟨p, ys, ds, rfl, hs, ha, ht, hdep, hz, q⟩ := h
  obtain ⟨u, rfl, rx⟩ : ∃ u, us = [u] ∧ RelV (.ref p) u := by
    cases rv with
    | cons a b => cases b; exact ⟨_, rfl, a⟩
  have hu := hr.units
  have ndig := digs hn I
  obtain rfl : u = Value.ref p := rx
  obtain ⟨its, rv, ⟨o, n, ho, hc, hw, hd⟩, _⟩ := I.list hs
  obtain ⟨as, q4, hk⟩ := dzA_told ndig I ds _ its ha rv
  have whole : Reads st.heap (.ref p) (.list ds) _ := .list ho hc hd q4
  simp only [PyData.shown] at q hz
  obtain ⟨bs, rb, kb⟩ := hk ht fun t m => Nat.le_trans (listText_mem_le m) hz
  have notIn : p ∉ bs := not_mem_of_deeper whole (by simp only [PyData.depth]; omega) rb
  refine call_repr_slot (by omega) ⟨o, ho, hc⟩ F.slot_list_repr.toG ?_
  cases its with
  | nil =>
    cases q4
    simp only [PyData.shownAll, listText_nil] at q
    exact call_list_repr_empty ⟨o, ho, hc⟩ ho hd ⟨_, _, rfl, ⟨.str _, Hx, I.tok _, ⟨_, rfl⟩, q⟩⟩
  | cons y l => exact call_list_reprK ho hc hd notIn (by simpa using kb.length_eq) (fun i y e => kb.item i y (by simpa using e)) hg (fun b _ => Clear.nil b) (by show X.A.units + 1 + _ < _; omega) (fun _ _ e => e) (fun h2 u tk hk => ⟨_, _, rfl, ⟨.str _, Hx, I.kept (t' := tk) hk, ⟨_, rfl⟩, q⟩⟩) hz
theorem k_reprZ {K : PySem.W.Frag} {k : Nat} (hn : X.base.NoDigits) (hg : X.A.guards = some []) (hr : Room k X.A) (e : X.K = K := by rfl) : CallR X (.builtin "repr") (rReprZ K) := e ▸ call_reprZ hn hg hr
end
end SG

namespace SG
open PySem PySem.Spec PyProof.Rows L2
def topS (i : Nat) : Stmt := PySem.Challenge.pw_serialhouse_k00_words.main.body.getD i (.Pass ⟨0, 0, 0, 0⟩)
abbrev s_is_word : Stmt := topS 1
abbrev N_is_word : List Str := ["thing", "sign"]
theorem sc_is_word : FnScope N_is_word ["thing"] (defScope s_is_word) := ⟨rfl, rfl, rfl, by decide +kernel, rfl, by decide +kernel, by decide +kernel⟩
abbrev s_is_ahead : Stmt := topS 2
abbrev N_is_ahead : List Str := ["one", "other"]
theorem sc_is_ahead : FnScope N_is_ahead ["one", "other"] (defScope s_is_ahead) := ⟨rfl, rfl, rfl, by decide +kernel, rfl, by decide +kernel, by decide +kernel⟩
abbrev s_common_beginning : Stmt := topS 3
abbrev N_common_beginning : List Str := ["one", "other", "many", "mine", "yours"]
theorem sc_common_beginning : FnScope N_common_beginning ["one", "other"] (defScope s_common_beginning) := ⟨rfl, rfl, rfl, by decide +kernel, rfl, by decide +kernel, by decide +kernel⟩
abbrev s__law_deck : Stmt := topS 40
abbrev N__law_deck : List Str := ["_law_script", "_law_cells", "_law_mixed", "_law_cell"]
theorem sc__law_deck : FnScope N__law_deck ["_law_script"] (defScope s__law_deck) := ⟨rfl, rfl, rfl, by decide +kernel, rfl, by decide +kernel, by decide +kernel⟩
abbrev s__law_draw : Stmt := topS 41
abbrev N__law_draw : List Str := ["_law_deck_here", "_law_below", "_law_turn", "_law_figure", "_law_cell"]
theorem sc__law_draw : FnScope N__law_draw ["_law_deck_here", "_law_below"] (defScope s__law_draw) := ⟨rfl, rfl, rfl, by decide +kernel, rfl, by decide +kernel, by decide +kernel⟩
abbrev s__law_pick : Stmt := topS 42
abbrev N__law_pick : List Str := ["_law_deck_here", "_law_some"]
theorem sc__law_pick : FnScope N__law_pick ["_law_deck_here", "_law_some"] (defScope s__law_pick) := ⟨rfl, rfl, rfl, by decide +kernel, rfl, by decide +kernel, by decide +kernel⟩
abbrev s__law_word : Stmt := topS 43
abbrev N__law_word : List Str := ["_law_deck_here", "_law_top", "_law_found", "_law_k"]
theorem sc__law_word : FnScope N__law_word ["_law_deck_here", "_law_top"] (defScope s__law_word) := ⟨rfl, rfl, rfl, by decide +kernel, rfl, by decide +kernel, by decide +kernel⟩
abbrev s__law_common : Stmt := topS 44
abbrev N__law_common : List Str := ["_law_own", "_law_mate", "_law_k"]
theorem sc__law_common : FnScope N__law_common ["_law_own", "_law_mate"] (defScope s__law_common) := ⟨rfl, rfl, rfl, by decide +kernel, rfl, by decide +kernel, by decide +kernel⟩
abbrev s__law_two_right : Stmt := topS 45
abbrev N__law_two_right : List Str := ["_law_own", "_law_mate", "_law_due", "_law_told"]
theorem sc__law_two_right : FnScope N__law_two_right ["_law_own", "_law_mate"] (defScope s__law_two_right) := ⟨rfl, rfl, rfl, by decide +kernel, rfl, by decide +kernel, by decide +kernel⟩
abbrev s__law_errors_one : Stmt := topS 46
abbrev N__law_errors_one : List Str := ["_law_a", "_law_b", "_law_found", "_law_x", "_law_y"]
theorem sc__law_errors_one : FnScope N__law_errors_one ["_law_a", "_law_b"] (defScope s__law_errors_one) := ⟨rfl, rfl, rfl, by decide +kernel, rfl, by decide +kernel, by decide +kernel⟩
abbrev s__law_errors_two : Stmt := topS 47
abbrev N__law_errors_two : List Str := ["_law_a", "_law_b", "_law_found", "_law_x", "_law_y"]
theorem sc__law_errors_two : FnScope N__law_errors_two ["_law_a", "_law_b"] (defScope s__law_errors_two) := ⟨rfl, rfl, rfl, by decide +kernel, rfl, by decide +kernel, by decide +kernel⟩
abbrev s__law_errors_three : Stmt := topS 48
abbrev N__law_errors_three : List Str := ["_law_a", "_law_b", "_law_found", "_law_x", "_law_y"]
theorem sc__law_errors_three : FnScope N__law_errors_three ["_law_a", "_law_b"] (defScope s__law_errors_three) := ⟨rfl, rfl, rfl, by decide +kernel, rfl, by decide +kernel, by decide +kernel⟩
abbrev s__law_kinds : Stmt := topS 49
abbrev N__law_kinds : List Str := ["_law_e", "_law_found"]
theorem sc__law_kinds : FnScope N__law_kinds ["_law_e"] (defScope s__law_kinds) := ⟨rfl, rfl, rfl, by decide +kernel, rfl, by decide +kernel, by decide +kernel⟩
abbrev s__law_is_alone : Stmt := topS 50
abbrev N__law_is_alone : List Str := ["_law_e", "_law_at", "_law_k"]
theorem sc__law_is_alone : FnScope N__law_is_alone ["_law_e", "_law_at"] (defScope s__law_is_alone) := ⟨rfl, rfl, rfl, by decide +kernel, rfl, by decide +kernel, by decide +kernel⟩
abbrev s__law_errors_right : Stmt := topS 51
abbrev N__law_errors_right : List Str := ["_law_deck_here", "_law_some", "_law_a", "_law_b", "_law_rows", "_law_at", "_law_x", "_law_y", "_law_near", "_law_far", "_law_lone", "_law_e"]
theorem sc__law_errors_right : FnScope N__law_errors_right ["_law_deck_here"] (defScope s__law_errors_right) := ⟨rfl, rfl, rfl, by decide +kernel, rfl, by decide +kernel, by decide +kernel⟩
abbrev s__law_is_caught : Stmt := topS 52
abbrev N__law_is_caught : List Str := ["_law_a", "_law_found", "_law_e"]
theorem sc__law_is_caught : FnScope N__law_is_caught ["_law_a"] (defScope s__law_is_caught) := ⟨rfl, rfl, rfl, by decide +kernel, rfl, by decide +kernel, by decide +kernel⟩
abbrev s_law : Stmt := topS 53
abbrev N_law : List Str := ["_law_script", "_law_deck_here", "_law_odd", "_law_k", "_law_own", "_law_mate", "_law_third", "_law_it", "_law_told"]
theorem sc_law : FnScope N_law ["_law_script"] (defScope s_law) := ⟨rfl, rfl, rfl, by decide +kernel, rfl, by decide +kernel, by decide +kernel⟩
abbrev s_BadFormat___init__ : Stmt := inClass (topS 6) 0
abbrev N_BadFormat___init__ : List Str := ["self", "part"]
theorem sc_BadFormat___init__ : FnScope N_BadFormat___init__ ["self", "part"] (defScope s_BadFormat___init__) := ⟨rfl, rfl, rfl, by decide +kernel, rfl, by decide +kernel, by decide +kernel⟩
abbrev s_BadSheet___init__ : Stmt := inClass (topS 7) 0
abbrev N_BadSheet___init__ : List Str := ["self", "part"]
theorem sc_BadSheet___init__ : FnScope N_BadSheet___init__ ["self", "part"] (defScope s_BadSheet___init__) := ⟨rfl, rfl, rfl, by decide +kernel, rfl, by decide +kernel, by decide +kernel⟩
abbrev s_BadText___init__ : Stmt := inClass (topS 8) 0
abbrev N_BadText___init__ : List Str := ["self", "place"]
theorem sc_BadText___init__ : FnScope N_BadText___init__ ["self", "place"] (defScope s_BadText___init__) := ⟨rfl, rfl, rfl, by decide +kernel, rfl, by decide +kernel, by decide +kernel⟩
abbrev s_BadLetters___init__ : Stmt := inClass (topS 9) 0
abbrev N_BadLetters___init__ : List Str := ["self", "pairs"]
theorem sc_BadLetters___init__ : FnScope N_BadLetters___init__ ["self", "pairs"] (defScope s_BadLetters___init__) := ⟨rfl, rfl, rfl, by decide +kernel, rfl, by decide +kernel, by decide +kernel⟩
abbrev s_NotIn___init__ : Stmt := inClass (topS 10) 0
abbrev N_NotIn___init__ : List Str := ["self", "word"]
theorem sc_NotIn___init__ : FnScope N_NotIn___init__ ["self", "word"] (defScope s_NotIn___init__) := ⟨rfl, rfl, rfl, by decide +kernel, rfl, by decide +kernel, by decide +kernel⟩
abbrev s_TooLong___init__ : Stmt := inClass (topS 11) 0
abbrev N_TooLong___init__ : List Str := ["self", "most"]
theorem sc_TooLong___init__ : FnScope N_TooLong___init__ ["self", "most"] (defScope s_TooLong___init__) := ⟨rfl, rfl, rfl, by decide +kernel, rfl, by decide +kernel, by decide +kernel⟩
abbrev s_UnlikeRows___init__ : Stmt := inClass (topS 12) 0
abbrev N_UnlikeRows___init__ : List Str := ["self", "length"]
theorem sc_UnlikeRows___init__ : FnScope N_UnlikeRows___init__ ["self", "length"] (defScope s_UnlikeRows___init__) := ⟨rfl, rfl, rfl, by decide +kernel, rfl, by decide +kernel, by decide +kernel⟩
abbrev s_NoWords___init__ : Stmt := inClass (topS 13) 0
abbrev N_NoWords___init__ : List Str := ["self", "length"]
theorem sc_NoWords___init__ : FnScope N_NoWords___init__ ["self", "length"] (defScope s_NoWords___init__) := ⟨rfl, rfl, rfl, by decide +kernel, rfl, by decide +kernel, by decide +kernel⟩
abbrev s_Endless___init__ : Stmt := inClass (topS 14) 0
abbrev N_Endless___init__ : List Str := ["self", "paper"]
theorem sc_Endless___init__ : FnScope N_Endless___init__ ["self", "paper"] (defScope s_Endless___init__) := ⟨rfl, rfl, rfl, by decide +kernel, rfl, by decide +kernel, by decide +kernel⟩
abbrev s_Uneven___init__ : Stmt := inClass (topS 15) 0
abbrev N_Uneven___init__ : List Str := ["self", "shares"]
theorem sc_Uneven___init__ : FnScope N_Uneven___init__ ["self", "shares"] (defScope s_Uneven___init__) := ⟨rfl, rfl, rfl, by decide +kernel, rfl, by decide +kernel, by decide +kernel⟩
abbrev s_BadCode___init__ : Stmt := inClass (topS 16) 0
abbrev N_BadCode___init__ : List Str := ["self", "part"]
theorem sc_BadCode___init__ : FnScope N_BadCode___init__ ["self", "part"] (defScope s_BadCode___init__) := ⟨rfl, rfl, rfl, by decide +kernel, rfl, by decide +kernel, by decide +kernel⟩
abbrev s_TwoWays___init__ : Stmt := inClass (topS 17) 0
abbrev N_TwoWays___init__ : List Str := ["self", "paper"]
theorem sc_TwoWays___init__ : FnScope N_TwoWays___init__ ["self", "paper"] (defScope s_TwoWays___init__) := ⟨rfl, rfl, rfl, by decide +kernel, rfl, by decide +kernel, by decide +kernel⟩
abbrev s_NoMessage___init__ : Stmt := inClass (topS 18) 0
abbrev N_NoMessage___init__ : List Str := ["self", "place"]
theorem sc_NoMessage___init__ : FnScope N_NoMessage___init__ ["self", "place"] (defScope s_NoMessage___init__) := ⟨rfl, rfl, rfl, by decide +kernel, rfl, by decide +kernel, by decide +kernel⟩
abbrev s_HasBeginnings___init__ : Stmt := inClass (topS 19) 0
abbrev N_HasBeginnings___init__ : List Str := ["self", "one", "other"]
theorem sc_HasBeginnings___init__ : FnScope N_HasBeginnings___init__ ["self", "one", "other"] (defScope s_HasBeginnings___init__) := ⟨rfl, rfl, rfl, by decide +kernel, rfl, by decide +kernel, by decide +kernel⟩
abbrev s_TooMuch___init__ : Stmt := inClass (topS 20) 0
abbrev N_TooMuch___init__ : List Str := ["self", "share"]
theorem sc_TooMuch___init__ : FnScope N_TooMuch___init__ ["self", "share"] (defScope s_TooMuch___init__) := ⟨rfl, rfl, rfl, by decide +kernel, rfl, by decide +kernel, by decide +kernel⟩
abbrev s_BadLot___init__ : Stmt := inClass (topS 21) 0
abbrev N_BadLot___init__ : List Str := ["self", "part"]
theorem sc_BadLot___init__ : FnScope N_BadLot___init__ ["self", "part"] (defScope s_BadLot___init__) := ⟨rfl, rfl, rfl, by decide +kernel, rfl, by decide +kernel, by decide +kernel⟩
abbrev s_TooFar___init__ : Stmt := inClass (topS 22) 0
abbrev N_TooFar___init__ : List Str := ["self", "most"]
theorem sc_TooFar___init__ : FnScope N_TooFar___init__ ["self", "most"] (defScope s_TooFar___init__) := ⟨rfl, rfl, rfl, by decide +kernel, rfl, by decide +kernel, by decide +kernel⟩
abbrev s_TooMany___init__ : Stmt := inClass (topS 23) 0
abbrev N_TooMany___init__ : List Str := ["self", "most"]
theorem sc_TooMany___init__ : FnScope N_TooMany___init__ ["self", "most"] (defScope s_TooMany___init__) := ⟨rfl, rfl, rfl, by decide +kernel, rfl, by decide +kernel, by decide +kernel⟩
abbrev s_Doubles___init__ : Stmt := inClass (topS 24) 0
abbrev N_Doubles___init__ : List Str := ["self", "paper"]
theorem sc_Doubles___init__ : FnScope N_Doubles___init__ ["self", "paper"] (defScope s_Doubles___init__) := ⟨rfl, rfl, rfl, by decide +kernel, rfl, by decide +kernel, by decide +kernel⟩
abbrev s_NotThin___init__ : Stmt := inClass (topS 25) 0
abbrev N_NotThin___init__ : List Str := ["self", "paper"]
theorem sc_NotThin___init__ : FnScope N_NotThin___init__ ["self", "paper"] (defScope s_NotThin___init__) := ⟨rfl, rfl, rfl, by decide +kernel, rfl, by decide +kernel, by decide +kernel⟩
abbrev s_BadName___init__ : Stmt := inClass (topS 26) 0
abbrev N_BadName___init__ : List Str := ["self", "name"]
theorem sc_BadName___init__ : FnScope N_BadName___init__ ["self", "name"] (defScope s_BadName___init__) := ⟨rfl, rfl, rfl, by decide +kernel, rfl, by decide +kernel, by decide +kernel⟩
abbrev s_NameTaken___init__ : Stmt := inClass (topS 27) 0
abbrev N_NameTaken___init__ : List Str := ["self", "name"]
theorem sc_NameTaken___init__ : FnScope N_NameTaken___init__ ["self", "name"] (defScope s_NameTaken___init__) := ⟨rfl, rfl, rfl, by decide +kernel, rfl, by decide +kernel, by decide +kernel⟩
abbrev s_NoBook___init__ : Stmt := inClass (topS 28) 0
abbrev N_NoBook___init__ : List Str := ["self", "name"]
theorem sc_NoBook___init__ : FnScope N_NoBook___init__ ["self", "name"] (defScope s_NoBook___init__) := ⟨rfl, rfl, rfl, by decide +kernel, rfl, by decide +kernel, by decide +kernel⟩
abbrev s_NoName___init__ : Stmt := inClass (topS 29) 0
abbrev N_NoName___init__ : List Str := ["self", "name"]
theorem sc_NoName___init__ : FnScope N_NoName___init__ ["self", "name"] (defScope s_NoName___init__) := ⟨rfl, rfl, rfl, by decide +kernel, rfl, by decide +kernel, by decide +kernel⟩
abbrev s_NoWordLeft___init__ : Stmt := inClass (topS 30) 0
abbrev N_NoWordLeft___init__ : List Str := ["self", "name"]
theorem sc_NoWordLeft___init__ : FnScope N_NoWordLeft___init__ ["self", "name"] (defScope s_NoWordLeft___init__) := ⟨rfl, rfl, rfl, by decide +kernel, rfl, by decide +kernel, by decide +kernel⟩
abbrev s_IssuedBefore___init__ : Stmt := inClass (topS 31) 0
abbrev N_IssuedBefore___init__ : List Str := ["self", "word"]
theorem sc_IssuedBefore___init__ : FnScope N_IssuedBefore___init__ ["self", "word"] (defScope s_IssuedBefore___init__) := ⟨rfl, rfl, rfl, by decide +kernel, rfl, by decide +kernel, by decide +kernel⟩
abbrev s_NotDrawn___init__ : Stmt := inClass (topS 32) 0
abbrev N_NotDrawn___init__ : List Str := ["self", "tosses"]
theorem sc_NotDrawn___init__ : FnScope N_NotDrawn___init__ ["self", "tosses"] (defScope s_NotDrawn___init__) := ⟨rfl, rfl, rfl, by decide +kernel, rfl, by decide +kernel, by decide +kernel⟩
abbrev s_NotInForce___init__ : Stmt := inClass (topS 33) 0
abbrev N_NotInForce___init__ : List Str := ["self", "word"]
theorem sc_NotInForce___init__ : FnScope N_NotInForce___init__ ["self", "word"] (defScope s_NotInForce___init__) := ⟨rfl, rfl, rfl, by decide +kernel, rfl, by decide +kernel, by decide +kernel⟩
abbrev s_BadSign___init__ : Stmt := inClass (topS 34) 0
abbrev N_BadSign___init__ : List Str := ["self", "sign"]
theorem sc_BadSign___init__ : FnScope N_BadSign___init__ ["self", "sign"] (defScope s_BadSign___init__) := ⟨rfl, rfl, rfl, by decide +kernel, rfl, by decide +kernel, by decide +kernel⟩
abbrev s_StillInForce___init__ : Stmt := inClass (topS 35) 0
abbrev N_StillInForce___init__ : List Str := ["self", "word"]
theorem sc_StillInForce___init__ : FnScope N_StillInForce___init__ ["self", "word"] (defScope s_StillInForce___init__) := ⟨rfl, rfl, rfl, by decide +kernel, rfl, by decide +kernel, by decide +kernel⟩
abbrev s_BadDeed___init__ : Stmt := inClass (topS 36) 0
abbrev N_BadDeed___init__ : List Str := ["self", "number"]
theorem sc_BadDeed___init__ : FnScope N_BadDeed___init__ ["self", "number"] (defScope s_BadDeed___init__) := ⟨rfl, rfl, rfl, by decide +kernel, rfl, by decide +kernel, by decide +kernel⟩
local macro_rules
  | `(tactic| clean_wf) => `(tactic| repeat (first | refine ⟨_, rfl, ?_⟩ | refine ⟨rfl, ?_⟩ | refine ⟨_, _, rfl, ?_⟩ | refine ⟨_, _, rfl, rfl, ?_⟩ | refine ⟨_, _, _, rfl, ?_⟩ | refine ⟨_, _, _, _, rfl, ?_⟩))
local macro_rules
  | `(tactic| exists $u:ident, $n:ident, $H:ident, $q:ident, $e:ident) => `(tactic| (refine ⟨by first | exact Nat.zero_le _ | assumption | (simp only [List.length_cons, List.length_nil]; decide), fun $u $n => ?_⟩; generalize hh : upd _ $u _ = $H; obtain ⟨$q, $e⟩ := mkq $n hh; clear hh))
local macro_rules
  | `(tactic| simp_wf) => `(tactic| first | assumption | exact upd_same | (refine (by assumption : Same _ _) _ _ ?_; simp_wf) | (refine (by assumption : Kept _ _ _ _) _ _ ?_ (by assumption) (by assumption); simp_wf))
local macro_rules
  | `(tactic| decreasing_trivial) => `(tactic| first | assumption | exact .inl (.inl (by assumption)) | (refine sameT (by assumption) ?_; decreasing_trivial))
local macro_rules
  | `(tactic| array_get_dec) => `(tactic| first | assumption | (refine CdAt.same (by assumption) ?_; array_get_dec))
structure Txt (mg : Str → Option Value) : Prop where
  all : mg "all" = none
  bool : mg "bool" = none
  dict : mg "dict" = none
  enumerate : mg "enumerate" = none
  int : mg "int" = none
  isinstance : mg "isinstance" = none
  len : mg "len" = none
  list : mg "list" = none
  min : mg "min" = none
  range : mg "range" = none
  repr : mg "repr" = none
  str : mg "str" = none
  tuple : mg "tuple" = none
  zip : mg "zip" = none
  ValueError : mg "ValueError" = none
  LookupError : mg "LookupError" = none
  ArithmeticError : mg "ArithmeticError" = none
  Exception : mg "Exception" = none
  TypeError : mg "TypeError" = none
section
variable {P : Program} {w : World} {K : PySem.W.Frag} {mg : Str → Option Value} {base : Heap}

def spDraw : Sp := fun vs H Q _ => ∃ (d l : Addr) (c : Nat) (k : Int), vs = [.ref d, .int k] ∧ Deck H d l c ∧ c < 1000000 ∧ 0 < k ∧ k < 1073741824 ∧
  ∀ (r : Int) (H2 : Hp), 0 ≤ r → r < k → Deck H2 d l (c + 1) → Kept d l H H2 → Q (.int r) H2
theorem ok_draw {f : Addr} {fd : FuncData} (F : Fun K "_law_draw" "_law_draw" s__law_draw f fd) (T : Txt mg) : GFn P w K mg base CX0 1 f fd ["_law_deck_here", "_law_below"] spDraw := by
  refine gfun_ok F sc__law_draw (fun vs H Q E h => ?_) (fun cdv A outer s H vs Q E hgu hr h => ?_)
  · obtain ⟨d, l, c, k, rfl, _⟩ := h
    rfl
  · obtain ⟨d, l, c, k, rfl, D, hc, k0, k1', q⟩ := h
    have nd := sc__law_draw.nd
    refine ⟨_, (pss_cons (ps_dput (hu_of hr) (pv 0) pe_str (pe_op op_add (pe_dget (hu_of hr) (pv 0) pe_str (fun _ _ => rfl)) pe_int) rfl)
      (pss_cons (ps_par (i := 2) (j := 3) rfl nd rfl rfl (by decide) rfl rfl (pa_cons (pe_dget (hu_of hr) (pv 0) pe_str (fun _ _ => rfl)) (pa_cons (pe_dget (hu_of hr) (pv 0) pe_str (fun _ _ => rfl)) pa_nil)) (by rfl))
      (C8.pss_cut (ps_if (pt_cmpR (k_neD (K := K) hr.units) (pe_dget (hu_of hr) (pv 0) pe_str (fun _ _ => rfl)) (pe_lst pa_nil) (nomark _)) (pss_cons (ps_set (i := 4) nd rfl (Or.inl rfl) (pe_bm0 PySem.F.plainAttrs_list PySem.F.slot_list_pop PySem.F.type_list_pop mt_pop (pe_dget (hu_of hr) (pv 0) pe_str (fun _ _ => rfl))))
      (pss_cons (ps_if (pt_cmpR op_ge (pv 4) (pe_op op_pow pe_int pe_int) (nomark _)) (pss_cons (ps_expr (pe_bm PySem.F.plainAttrs_list PySem.F.slot_list_append PySem.F.type_list_append mt_append (pe_dget (hu_of hr) (pv 0) pe_str (fun _ _ => rfl)) (pa_cons (pe_op op_fdiv (pv 4) (pv 1)) pa_nil)))
      (pss_one (ps_ret (pe_op op_mod (pe_callTy call_int1 (by rfl) T.int (by decide +kernel) (pa_cons (pv 4) pa_nil)) (pv 1))))) pss_nil)
      (pss_one (ps_set (i := 3) nd rfl (Or.inl rfl) (pe_op op_add (pv 3) (pe_op op_mod (pe_callTy call_int1 (by rfl) T.int (by decide +kernel) (pa_cons (pv 4) pa_nil)) pe_int)))))) pss_nil)
      (pss_cons (ps_set (i := 3) nd rfl (Or.inl rfl) (pe_op op_mod (pe_op op_mul (pe_callTy call_int1 (by rfl) T.int (by decide +kernel) (pa_cons (pe_op op_add (pe_op op_add (pe_op op_mod (pv 3) pe_int) (pe_op op_mul (pe_op op_mul pe_int (pv 2)) (pv 2))) pe_int) pa_nil)) pe_int) pe_int))
      (pss_cons (ps_set (i := 3) nd rfl (Or.inl rfl) (pe_op op_mod (pe_callTy call_int1 (by rfl) T.int (by decide +kernel) (pa_cons (pe_op op_add (pe_op op_add (pe_op op_mul (pv 3) (pv 3)) (pe_op op_mul pe_int (pv 2))) pe_int) pa_nil)) pe_int))
      (pss_one (ps_ret (pe_op op_mod (pe_op op_fdiv (pe_op op_mod (pe_callTy call_int1 (by rfl) T.int (by decide +kernel) (pa_cons (pe_op op_mul (pv 3) pe_int) pa_nil)) pe_int) pe_int) (pv 1))))))))), ?_⟩
    obtain ⟨cs, m, n, hd, hl, hm, hn, hcs⟩ := D
    have dl : d ≠ l := ne_of hd hl nofun
    -- the count goes on
    refine ⟨_, rfl, d, _, rfl, dgDraws hd, _, _, rfl, rfl, _, rfl, d, _, rfl, dpDraws (n + 1) hd, ?_⟩
    have hd1 : upd H d (.dK (deckO l m (n + 1))) d = some (.dK (deckO l m (n + 1))) := upd_same
    have hl1 : upd H d (.dK (deckO l m (n + 1))) l = some (.lst (cs.map V.int)) := by rw [upd_ne dl.symm]; exact hl
    have k1 : Kept d l H (upd H d (.dK (deckO l m (n + 1)))) := fun b o e h1 _ => by rw [upd_ne h1]; exact e
    generalize upd H d (.dK (deckO l m (n + 1))) = H1 at hd1 hl1 k1 ⊢
    refine ⟨_, rfl, d, _, rfl, dgDraws hd1, _, rfl, d, _, rfl, dgMixed hd1, _, _, rfl, ?_⟩
    -- the cell that is left, if there is one; behind it what stands
    refine ⟨fun σ' H' => ∃ (x : Int) (y4 : Option V), σ' = [some (.ref d), some (.int k), some (.int (n + 1)), some (.int x), y4] ∧ Kept d l H H' ∧ H' d = some (.dK (deckO l m (n + 1))) ∧ ∃ cs2 : List Int, H' l = some (.lst (cs2.map V.int)) ∧ cs2.length ≤ 63, ?_, ?_⟩
    · refine ⟨_, rfl, d, _, rfl, dgCells hd1, ?_⟩
      refine ⟨Nat.zero_le _, fun p np => ?_⟩
      have hd2 : upd H1 p (.lst []) d = some (.dK (deckO l m (n + 1))) := by rw [upd_ne (ne_of_none hd1 np)]; exact hd1
      have hl2 : upd H1 p (.lst []) l = some (.lst (cs.map V.int)) := by rw [upd_ne (ne_of_none hl1 np)]; exact hl1
      have k2 : Kept d l H (upd H1 p (.lst [])) := k1.trans (.of (same_new np))
      refine ⟨.list (dI cs), .list [], .lst (SqL.of hl2) (dpInts cs), .lst (SqL.of upd_same) .nil, shI cs, rfl, ?_⟩
      generalize upd H1 p (.lst []) = H2 at hd2 hl2 k2 ⊢
      refine ⟨!cs.isEmpty, by rw [eqvI_nil], ?_⟩
      rcases List.eq_nil_or_concat cs with rfl | ⟨c0, z, rfl⟩
      · exact iteF ⟨m, none, rfl, k2, hd2, [], hl2, by simp⟩
      · rw [List.concat_eq_append] at hl2 hcs ⊢
        refine ifT (by simp) ?_
        have hl3 : upd H2 l (.lst (c0.map V.int)) l = some (.lst (c0.map V.int)) := upd_same
        have hd3 : upd H2 l (.lst (c0.map V.int)) d = some (.dK (deckO l m (n + 1))) := by rw [upd_ne dl]; exact hd2
        have k3 : Kept d l H (upd H2 l (.lst (c0.map V.int))) := k2.trans fun b o e _ h2 => by rw [upd_ne h2]; exact e
        have el : ((c0 ++ [z]).map V.int).dropLast = c0.map V.int := by simp
        have ey : ((c0 ++ [z]).map V.int)[((c0 ++ [z]).map V.int).length - 1]? = some (.int z) := by simp
        -- the last cell is taken
        refine ⟨_, rfl, d, _, rfl, dgCells hd2, .inl ⟨rfl, _, SqL.of hl2⟩, l, _, _, rfl, rfl, hl2, ey, ?_⟩
        rw [el]
        generalize upd H2 l (.lst (c0.map V.int)) = H3 at hd3 hl3 k3 ⊢
        refine ⟨_, rfl, _, _, rfl, rfl, ⟨by decide, by decide, by decide⟩, _, _, rfl, rfl, _, rfl, ite2 (fun _ => ?_) (fun _ => ?_)⟩
        · refine ⟨_, rfl, d, _, rfl, dgCells hd3, .inl ⟨rfl, _, SqL.of hl3⟩, _, rfl, _, rfl, _, _, rfl, rfl, ⟨k0, k1'⟩, l, _, _, rfl, rfl, hl3, ?_, ?_⟩
          · rw [List.length_map]
            exact Nat.lt_of_lt_of_le (Nat.lt_succ_of_le (by simp at hcs; omega : c0.length ≤ 62)) (by decide)
          · have k4 : Kept d l H (upd H3 l (.lst (c0.map V.int ++ [.int (z / k)]))) := k3.trans fun b o e _ h2 => by rw [upd_ne h2]; exact e
            refine ⟨_, rfl, .inl ⟨_, rfl, _, rfl, _, _, rfl, rfl, k0, ?_⟩⟩
            refine q _ _ (mod_lo k0) (mod_hi k0) ⟨c0 ++ [z / k], m, n + 1, by rw [upd_ne dl]; exact hd3, by rw [upd_same, List.map_append]; rfl, hm, ⟨by omega, by omega⟩, ?_⟩ k4
            simp at hcs ⊢
            omega
        · refine ⟨_, rfl, _, rfl, .inl ⟨_, rfl, _, _, rfl, rfl, (by show (0 : Int) < _; decide), _, _, rfl, rfl, ?_⟩⟩
          exact ⟨m + z % 2147483563, some (.int z), rfl, k3, hd3, c0, hl3, by simp at hcs; omega⟩
    · rintro σ' H3 ⟨x, y4, rfl, k3, h3, cs2, h4, h5⟩
      have t1 : 0 < n + 1 := by omega
      have t2 : n + 1 ≤ 1000000 := by omega
      have t3 : n + 1 ≤ ((c + 1 : Nat) : Int) := by omega
      generalize n + 1 = t at t1 t2 t3 h3 ⊢
      have w0 := mod_lo (a := x) (b := 2147483629) (by decide)
      have w1 := mod_hi (a := x) (b := 2147483629) (by decide)
      refine ⟨_, rfl, _, _, rfl, rfl, (by show (0 : Int) < _; decide), ?_⟩
      dsimp only
      generalize x % 2147483629 = g at w0 w1 ⊢
      have tt : t * t ≤ 1000000000000 := by
        have := Int.mul_le_mul t2 t2 (by omega) (by omega : (0 : Int) ≤ 1000000)
        omega
      have tt0 : 0 ≤ t * t := Int.mul_nonneg (by omega) (by omega)
      have e3 : 60101 * t * t = 60101 * (t * t) := by rw [Int.mul_assoc]
      refine ⟨_, rfl, _, _, rfl, rfl, .inl (by omega), _, rfl, _, _, rfl, rfl, .inl (by omega), _, _, rfl, rfl, _, _, rfl, rfl, .inl ⟨_, rfl, _, _, rfl, rfl, .inr (by omega), _, _, rfl, rfl, (by show (0 : Int) < _; decide), ?_⟩⟩
      dsimp only
      have x0 := mod_lo (a := (g + 60101 * t * t + 17) * 40692) (b := 2147483647) (by decide)
      have x1 := mod_hi (a := (g + 60101 * t * t + 17) * 40692) (b := 2147483647) (by decide)
      generalize (g + 60101 * t * t + 17) * 40692 % 2147483647 = e at x0 x1 ⊢
      refine ⟨_, rfl, _, rfl, _, _, rfl, rfl, .inl (by omega), _, rfl, _, _, rfl, rfl, .inl (by omega), _, _, rfl, rfl, _, _, rfl, rfl, .inl ⟨_, rfl, _, _, rfl, rfl, (by show (0 : Int) < _; decide), ?_⟩⟩
      dsimp only
      have y0 := mod_lo (a := e * e + 69621 * t + 17) (b := 2147483579) (by decide)
      have y1 := mod_hi (a := e * e + 69621 * t + 17) (b := 2147483579) (by decide)
      generalize (e * e + 69621 * t + 17) % 2147483579 = j at y0 y1 ⊢
      refine ⟨_, rfl, _, _, rfl, rfl, .inl (by omega), .inl ⟨_, rfl, _, _, rfl, rfl, (by show (0 : Int) < _; decide), _, _, rfl, rfl, ⟨by decide, by decide⟩, _, rfl, _, _, rfl, rfl, k0, ?_⟩⟩
      exact q _ _ (mod_lo k0) (mod_hi k0) ⟨cs2, m, t, h3, h4, hm, ⟨by omega, t3⟩, h5⟩ k3
end
end SG

namespace SG
open PySem PySem.Spec PyProof.Rows L2
section
variable {P : Program} {w : World} {K : PySem.W.Frag} {mg : Str → Option Value} {base : Heap}

def spDeck (K : PySem.W.Frag) : Sp := fun vs H Q _ => ∃ (a : Addr) (ns : List Int), vs = [.ref a] ∧ SqL K H a (ns.map V.int) ∧ ns.length ≤ 63 ∧
  ∀ (d l : Addr) (H2 : Hp), Deck H2 d l 0 → Same H H2 → Q (.ref d) H2
theorem ok_deck {f : Addr} {fd : FuncData} (F : Fun K "_law_deck" "_law_deck" s__law_deck f fd) (T : Txt mg) : GFn P w K mg base CX0 1 f fd ["_law_script"] (spDeck K) := by
  refine gfun_ok F sc__law_deck (fun vs H Q E h => ?_) (fun cdv A outer s H vs Q E hgu hr h => ?_)
  · obtain ⟨a, ns, rfl, _⟩ := h
    rfl
  · obtain ⟨a, ns, rfl, hS, hlen, q⟩ := h
    have nd := sc__law_deck.nd
    refine ⟨_, (pss_cons (ps_par (i := 1) (j := 2) rfl nd rfl rfl (by decide) rfl rfl (pa_cons (pe_callTy (k_listOf (K := K)) (by rfl) T.list (by decide +kernel) (pa_cons (pe_slice (k_slL (K := K)) (pv 0) po_none (po_some pe_int)) pa_nil)) (pa_cons pe_int pa_nil)) (by rfl))
      (pss_cons (ps_for PassesOwn.never rfl (pi_list (pv 1)) (pg_name (i := 3) nd rfl (Or.inl rfl))
        (pss_one (ps_set (i := 2) nd rfl (Or.inl rfl) (pe_op op_mod (pe_callTy call_int1 (by rfl) T.int (by decide +kernel) (pa_cons (pe_op op_add (pe_op op_add (pe_op op_mul (pv 2) pe_int) (pe_op op_mod (pe_callTy call_int1 (by rfl) T.int (by decide +kernel) (pa_cons (pv 3) pa_nil)) pe_int)) pe_int) pa_nil)) pe_int))))
      (pss_one (ps_ret (pe_disp (pps_cons pe_str (k_rev (K := K) (pv 1)) (pps_cons pe_str (pv 2) (pps_cons pe_str pe_int pps_nil))) (by rfl) (by rfl) (fun z => by cases z) (by decide)))))), ?_⟩
    -- the script's copy
    refine ⟨.ref a, rfl, 63, rfl, a, _, rfl, hS, fun p np => ?_⟩
    have s1 : Same H (upd H p (.lst (cutV (ns.map V.int) none (some 63)))) := same_new np
    have e1 : cutV (ns.map V.int) none (some 63) = ns.map V.int := by
      unfold cutV
      rw [HT.sIx_none, show HT.sIx (ns.map V.int).length (ns.map V.int).length (some 63) = min 63 (ns.map V.int).length from HT.sIx_nat _ _ 63]
      rw [show min 63 (ns.map V.int).length = (ns.map V.int).length by rw [List.length_map]; omega]
      exact List.take_of_length_le (Nat.le_refl _)
    rw [e1] at s1 ⊢
    refine ⟨p, _, rfl, .inl (SqL.of upd_same), fun l nl => ?_⟩
    have s2 : Same H (upd (upd H p (.lst (ns.map V.int))) l (.lst (ns.map V.int))) := s1.trans (same_new nl)
    have hl : (upd (upd H p (.lst (ns.map V.int))) l (.lst (ns.map V.int))) l = some (.lst (ns.map V.int)) := upd_same
    generalize (upd (upd H p (.lst (ns.map V.int))) l (.lst (ns.map V.int))) = H1 at s2 hl ⊢
    refine ⟨_, _, rfl, ?_⟩
    -- the figure
    refine ⟨_, rfl, l, rfl, ⟨_, SqL.of hl⟩, for_list (K := K) (a := l) (xs := ns.map V.int) (fun i σ H2 => ∃ (m : Int) (y : Option V), σ = [some (.ref a), some (.ref l), some (.int m), y] ∧ (0 ≤ m ∧ m < 2147483648) ∧ H2 = H1)
      ⟨1086500, none, rfl, ⟨by decide, by decide⟩, rfl⟩ (fun i σ H2 _ ⟨_, _, _, _, e⟩ => e ▸ SqL.of hl) ?_ ?_⟩
    · rintro i y σ H2 hi ⟨m, y3, rfl, hm, rfl⟩
      obtain ⟨z, rfl⟩ : ∃ z, y = V.int z := by
        rw [List.getElem?_map] at hi
        obtain ⟨z, _, e⟩ := Option.map_eq_some_iff.mp hi
        exact ⟨z, e.symm⟩
      have u0 := mod_lo (a := z) (b := 2147483629) (by decide)
      have u1 := mod_hi (a := z) (b := 2147483629) (by decide)
      refine ⟨_, rfl, _, _, rfl, rfl, .inl (by omega), _, rfl, .inl ⟨_, rfl, _, _, rfl, rfl, (by show (0 : Int) < _; decide), _, _, rfl, rfl, _, _, rfl, rfl, .inl ⟨_, rfl, _, _, rfl, rfl, (by show (0 : Int) < _; decide), ?_⟩⟩⟩
      exact ⟨_, _, rfl, ⟨mod_lo (by decide), Int.lt_trans (mod_hi (by decide)) (by decide)⟩, rfl⟩
    · rintro σ H2 ⟨m, y3, rfl, hm, rfl⟩
      -- the deck
      refine fun d nd1 => ?_
      have t2 : Same H (upd H2 d (.dK [])) := s2.trans (same_new nd1)
      have hl3 : (upd H2 d (.dK [])) l = some (.lst (ns.map V.int)) := by rw [upd_ne (ne_of_none hl nd1)]; exact hl
      have hd3 : (upd H2 d (.dK [])) d = some (.dK []) := upd_same
      generalize upd H2 d (.dK []) = H3 at t2 hl3 hd3 ⊢
      refine ⟨.ref l, rfl, l, _, rfl, SqL.of hl3, fun r nr => ?_⟩
      have t4 : Same H (upd H3 r (.lst (ns.map V.int).reverse)) := t2.trans (same_new nr)
      have hd4 : (upd H3 r (.lst (ns.map V.int).reverse)) d = some (.dK []) := by rw [upd_ne (ne_of_none hd3 nr)]; exact hd3
      have hr4 : (upd H3 r (.lst (ns.map V.int).reverse)) r = some (.lst (ns.reverse.map V.int)) := by rw [upd_same, List.map_reverse]
      have nd0 : H d = none := s2.free nd1
      have nr0 : r ≠ d := (ne_of_none hd3 nr).symm
      generalize upd H3 r (.lst (ns.map V.int).reverse) = H4 at t4 hd4 hr4 ⊢
      refine ⟨_, rfl, hd4, deckO r m 0, rfl, (by show 3 ≤ 15; decide), ?_⟩
      rw [deck_made]
      refine q d r _ ⟨ns.reverse, m, 0, upd_same, by rw [upd_ne nr0]; exact hr4, hm, ⟨by decide, by decide⟩, by rw [List.length_reverse]; exact hlen⟩ fun b o e => ?_
      rw [upd_ne (ne_of_none e nd0)]
      exact t4 _ _ e

/-- one of a list's, a sign of a text -/
def spPick (K : PySem.W.Frag) : Sp := fun vs H Q _ => ∃ (d l : Addr) (c : Nat), Deck H d l c ∧ c < 1000000 ∧
  ((∃ (a : Addr) (xs : List V), vs = [.ref d, .ref a] ∧ SqL K H a xs ∧ a ≠ l ∧ xs ≠ [] ∧ xs.length ≤ 1000 ∧ ∀ (x : V) (H2 : Hp), x ∈ xs → Deck H2 d l (c + 1) → Kept d l H H2 → Q x H2) ∨
   (∃ z : Str, vs = [.ref d, .str z] ∧ 0 < z.length ∧ z.length ≤ 1000 ∧ ∀ (g : Nat) (H2 : Hp), g ∈ z.cps.toList → Deck H2 d l (c + 1) → Kept d l H H2 → Q (.str ⟨#[g]⟩) H2))
theorem ok_pick {f f1 : Addr} {fd fd1 : FuncData} (F : Fun K "_law_pick" "_law_pick" s__law_pick f fd) (F__law_draw : Fun K "_law_draw" "_law_draw" s__law_draw f1 fd1) (m__law_draw : mg "_law_draw" = some (.ref f1)) (b__law_draw : Binds K fd1 ["_law_deck_here", "_law_below"] []) (T : Txt mg) : GFn P w K mg base CX0 2 f fd ["_law_deck_here", "_law_some"] (spPick K) := by
  have G__law_draw : GFn P w K mg base CX0 1 f1 fd1 ["_law_deck_here", "_law_below"] spDraw := ok_draw F__law_draw T
  refine gfun_ok F sc__law_pick (fun vs H Q E h => ?_) (fun cdv A outer s H vs Q E hgu hr h => ?_)
  · obtain ⟨d, l, c, D, hc, ⟨a, xs, rfl, _⟩ | ⟨z, rfl, _⟩⟩ := h
    · rfl
    · rfl
  · obtain ⟨d, l, c, D, hc, h⟩ := h
    have nd := sc__law_pick.nd
    refine ⟨_, (pss_one (ps_ret (pe_ix (k_ix (K := K)) (pv 1) (pe_g G__law_draw hgu (hr.mono (by decide)) (by rfl) m__law_draw F__law_draw.kp b__law_draw .nil pass0 (pa_cons (pv 0) (pa_cons (pe_callB call_len (by rfl) T.len (by decide +kernel) (pa_cons (pv 1) pa_nil)) pa_nil))) (fun _ _ => rfl)))), ?_⟩
    rcases h with ⟨a, xs, rfl, hS, al, ne, hlen, q⟩ | ⟨z, rfl, z0, z1, q⟩
    · have pos : 0 < xs.length := List.length_pos_iff.mpr ne
      refine ⟨_, rfl, _, rfl, _, rfl, _, _, rfl, .inl ⟨xs, hS, rfl⟩, d, l, c, _, rfl, D, hc, by omega, by omega, fun r H2 r0 r1 D2 k2 => ?_⟩
      have hS2 := k2.lst D al hS
      obtain ⟨i, rfl⟩ : ∃ i : Nat, r = (i : Int) := ⟨r.toNat, by omega⟩
      have hi : i < xs.length := by omega
      exact .inl ⟨a, xs, i, xs[i], rfl, rfl, hS2, atI_nat (List.getElem?_eq_getElem hi), q _ _ (List.getElem_mem hi) D2 k2⟩
    · have ez : z.cps.toList.length = z.length := by simp [Str.length]
      have sz : z.length ≤ sizeLine := Nat.le_of_lt (small1000 z1)
      refine ⟨_, rfl, _, rfl, _, rfl, _, _, rfl, ⟨sz, rfl⟩, d, l, c, _, rfl, D, hc, by omega, by omega, fun r H2 r0 r1 D2 k2 => ?_⟩
      obtain ⟨i, rfl⟩ : ∃ i : Nat, r = (i : Int) := ⟨r.toNat, by omega⟩
      have hi : i < z.cps.toList.length := by omega
      exact .inr (.inr ⟨z, i, z.cps.toList[i], rfl, rfl, sz, atI_nat (List.getElem?_eq_getElem hi), q _ _ (List.getElem_mem hi) D2 k2⟩)
end
end SG

/-! The program's functions of words. -/
namespace SG
open PySem PySem.Spec PyProof.Rows L2
local macro_rules
  | `(tactic| clean_wf) => `(tactic| repeat (first | refine ⟨_, rfl, ?_⟩ | refine ⟨rfl, ?_⟩ | refine ⟨_, _, rfl, ?_⟩ | refine ⟨_, _, rfl, rfl, ?_⟩ | refine ⟨_, _, _, rfl, ?_⟩ | refine ⟨_, _, _, _, rfl, ?_⟩))
local macro_rules
  | `(tactic| exists $u:ident, $n:ident, $H:ident, $q:ident, $e:ident) => `(tactic| (refine ⟨by first | exact Nat.zero_le _ | assumption | (simp only [List.length_cons, List.length_nil]; decide), fun $u $n => ?_⟩; generalize hh : upd _ $u _ = $H; obtain ⟨$q, $e⟩ := mkq $n hh; clear hh))
local macro_rules
  | `(tactic| simp_wf) => `(tactic| first | assumption | exact upd_same | (refine (by assumption : Same _ _) _ _ ?_; simp_wf) | (refine (by assumption : Kept _ _ _ _) _ _ ?_ (by assumption) (by assumption); simp_wf))
local macro_rules
  | `(tactic| decreasing_trivial) => `(tactic| first | assumption | exact .inl (.inl (by assumption)) | (refine sameT (by assumption) ?_; decreasing_trivial))
local macro_rules
  | `(tactic| array_get_dec) => `(tactic| first | assumption | (refine CdAt.same (by assumption) ?_; array_get_dec))
def cp : List Nat → List Nat → Nat
  | a :: l, b :: m => if a = b then cp l m + 1 else 0
  | _, _ => 0
theorem cp_is : ∀ (l m : List Nat) (k : Nat), k ≤ l.length → k ≤ m.length → (∀ j, j < k → l[j]? = m[j]?) → (k = min l.length m.length ∨ l[k]? ≠ m[k]?) → cp l m = k
  | [], _, k, h1, _, _, _ => by
    simp at h1
    subst h1
    unfold cp
    rfl
  | _ :: _, [], k, _, h2, _, _ => by
    simp at h2
    subst h2
    unfold cp
    rfl
  | a :: l, b :: m, 0, _, _, _, h => by
    rcases h with h | h
    · simp at h
    · unfold cp
      rw [if_neg]
      intro e
      subst e
      exact h rfl
  | a :: l, b :: m, k + 1, h1, h2, h3, h4 => by
    have e : a = b := by simpa using h3 0 (Nat.succ_pos _)
    subst e
    unfold cp
    rw [if_pos rfl, cp_is l m k (by simpa using h1) (by simpa using h2) (fun j hj => by simpa using h3 (j + 1) (by omega)) (by
      rcases h4 with h4 | h4
      · left
        simp at h4
        omega
      · right
        simpa using h4)]
def aheadB (x y : Str) : Bool := decide (x.length < y.length) || (decide (x.length = y.length) && decide (x.cps.toList < y.cps.toList))
section
variable {P : Program} {w : World} {K : PySem.W.Frag} {mg : Str → Option Value} {base : Heap}
def spAhead : Sp := fun vs H Q _ => ∃ x y : Str, vs = [.str x, .str y] ∧ x.length ≤ 1000 ∧ y.length ≤ 1000 ∧ ∀ H2, Same H H2 → Q (.bl (aheadB x y)) H2
theorem fo_is_ahead {f : Addr} {fd : FuncData} (F : Fun K "is_ahead" "is_ahead" s_is_ahead f fd) (T : Txt mg) : FnOk P w K mg base CX0 1 f fd ["one", "other"] spAhead := by
  refine F.ok sc_is_ahead (fun vs H Q E h => ?_) (fun cdv A outer s H vs Q E hr h => ?_)
  · obtain ⟨x, y, rfl, _⟩ := h
    rfl
  · obtain ⟨x, y, rfl, hx, hy, q⟩ := h
    have nd := sc_is_ahead.nd
    refine ⟨_, (pss_one (ps_ret (pe_cmpR (op_ltD (K := K) hr.units) (pe_tup (pa_cons (pe_callB call_len_str (by rfl) T.len (by decide +kernel) (pa_cons (pv 0) pa_nil)) (pa_cons (pv 0) pa_nil))) (pe_tup (pa_cons (pe_callB call_len_str (by rfl) T.len (by decide +kernel) (pa_cons (pv 1) pa_nil)) (pa_cons (pv 1) pa_nil))) (nomark _)))), ?_⟩
    have sz : ∀ n : Nat, n ≤ 1000 → n ≤ sizeLine := fun n h => Nat.le_trans h (by decide)
    refine ⟨_, rfl, x, rfl, sz _ hx, _, rfl, by show 2 ≤ sizeLine; decide, fun T1 n1 => ⟨_, rfl, y, rfl, sz _ hy, _, rfl, by show 2 ≤ sizeLine; decide, fun T2 n2 => ?_⟩⟩
    have s1 := same_new (o := .tup [.int x.length, .str x]) n1
    have s2 := same_new (o := .tup [.int y.length, .str y]) n2
    refine ⟨.tuple [.int x.length, .str x], .tuple [.int y.length, .str y], .tup (.inl (.inl (s2 _ _ upd_same))) (.cons (.int _) (.cons (.str _) .nil)), .tup (.inl (.inl upd_same)) (.cons (.int _) (.cons (.str _) .nil)), by simp [PySem.W.alike, PySem.W.alikeAll], nofun, by simp [PyData.depth, PyData.depthAll], ?_⟩
    have e : PySem.W.dataLt (.tuple [.int x.length, .str x]) (.tuple [.int y.length, .str y]) = aheadB x y := by
      rw [PySem.W.dataLt_tuple, PySem.W.dataLt_cons (by simp [PySem.W.alike])]
      unfold aheadB
      split
      · next e =>
        have e : x.length = y.length := by
          simp only [PyData.eqv, beq_iff_eq] at e
          omega
        rw [decide_eq_false (show ¬ x.length < y.length by omega), decide_eq_true e, PySem.W.dataLt_cons (by simp [PySem.W.alike])]
        split
        · next z =>
          have z : x = y := by simpa [PyData.eqv] using z
          subst z
          rw [decide_eq_false (List.lt_irrefl _)]
          rfl
        · rw [PySem.W.dataLt_str]
          rfl
      · next e =>
        have e : ¬ x.length = y.length := fun z => e (by simp only [PyData.eqv, beq_iff_eq]; omega)
        rw [PySem.W.dataLt_int, decide_eq_false e, Bool.false_and, Bool.or_false, decide_eq_decide]
        omega
    rw [e]
    exact q _ (s1.trans s2)
def spCp : Sp := fun vs H Q _ => ∃ x y : Str, vs = [.str x, .str y] ∧ x.length ≤ 1000 ∧ y.length ≤ 1000 ∧ ∀ H2, Same H H2 → Q (.str (cutS x none (some (cp x.cps.toList y.cps.toList : Nat)))) H2
theorem fo_cp {f : Addr} {fd : FuncData} (F : Fun K "common_beginning" "common_beginning" s_common_beginning f fd) (T : Txt mg) : FnOk P w K mg base CX0 1 f fd ["one", "other"] spCp := by
  refine F.ok sc_common_beginning (fun vs H Q E h => ?_) (fun cdv A outer s H vs Q E hr h => ?_)
  · obtain ⟨x, y, rfl, _⟩ := h
    rfl
  · obtain ⟨x, y, rfl, hx, hy, q⟩ := h
    have nd := sc_common_beginning.nd
    refine ⟨_, (pss_cons (ps_set (i := 2) nd rfl (Or.inl rfl) pe_int)
      (pss_cons (ps_for PassesOwn.never rfl (pi_zipS (by rfl) T.zip (pa_cons (pv 0) (pa_cons (pv 1) pa_nil))) (k_tg (K := K) (n := 2) rfl (pgs_cons (pg_name (i := 3) nd rfl (Or.inl rfl)) (pgs_cons (pg_name (i := 4) nd rfl (Or.inl rfl)) pgs_nil)))
        (pss_cons (ps_if (pt_cmpR op_ne (pv 3) (pv 4) (nomark _)) (pss_one ps_break) pss_nil)
      (pss_one (ps_aug (i := 2) nd rfl (Or.inl rfl) pe_int ip_add))))
      (pss_one (ps_ret (pe_slice sl_str (pv 0) po_none (po_some (pv 2))))))), ?_⟩
    have lx : x.cps.toList.length = x.length := Array.length_toList ..
    have ly : y.cps.toList.length = y.length := Array.length_toList ..
    refine ⟨_, rfl, _, rfl, x, y, rfl, ?_⟩
    refine for_it (walk_zipS (x := x) (y := y) rfl) (fun i σ HI => ∃ (y3 y4 : Option V), σ = [some (.str x), some (.str y), some (.int (i : Nat)), y3, y4] ∧ Same H HI ∧ ∀ j, j < i → x.cps.toList[j]? = y.cps.toList[j]?)
      ⟨none, none, rfl, Same.refl _, fun j hj => absurd hj (Nat.not_lt_zero _)⟩ (fun _ _ _ _ _ => trivial) ?_ ?_
    · rintro i v σ H2 H3 hi ⟨y3, y4, rfl, s2, eq⟩ ⟨T, c, e, rfl, nT, hc, he, rfl⟩
      have hc2 : x.cps.toList[i]? = some c := by rw [← hc]; exact Array.getElem?_toList ..
      have he2 : y.cps.toList[i]? = some e := by rw [← he]; exact Array.getElem?_toList ..
      have s3 := s2.trans (same_new (o := .tup [.str ⟨#[c]⟩, .str ⟨#[e]⟩]) nT)
      refine ⟨T, _, rfl, .inl (.inl upd_same), rfl, _, _, rfl, _, _, rfl, rfl, ?_⟩
      refine ⟨_, rfl, _, rfl, rfl, _, rfl, ?_⟩
      by_cases ce : c = e
      · subst ce
        refine ifF (by simp) ⟨_, rfl, _, _, rfl, rfl, ⟨_, _, rfl, s3, fun j hj => ?_⟩⟩
        by_cases z : j < i
        · exact eq j z
        · obtain rfl : j = i := by omega
          rw [hc2, he2]
      · refine ifT (by simpa using ce) ?_
        have li := (List.getElem?_eq_some_iff.mp hc2).1
        have mi := (List.getElem?_eq_some_iff.mp he2).1
        have z := cp_is x.cps.toList y.cps.toList i (by omega) (by omega) eq (.inr (by rw [hc2, he2]; simpa using ce))
        refine ⟨_, rfl, _, rfl, _, rfl, x, rfl, Nat.le_trans hx (by show 1000 ≤ sizeLine; decide), ?_⟩
        rw [z] at q
        exact q _ s3
    rintro σ H2 ⟨y3, y4, rfl, s2, eq⟩
    have z := cp_is x.cps.toList y.cps.toList (min x.cps.size y.cps.size) (by rw [lx]; exact Nat.min_le_left _ _) (by rw [ly]; exact Nat.min_le_right _ _) eq (.inl (by rw [lx, ly]; rfl))
    refine ⟨_, rfl, _, rfl, _, rfl, x, rfl, Nat.le_trans hx (by show 1000 ≤ sizeLine; decide), ?_⟩
    rw [z] at q
    exact q _ s2
end
end SG

/-! Words: of any value; the law's. -/
namespace SG
open PySem PySem.Spec PyProof.Rows L2 TL
open SX (S S_tl S_len)
local macro_rules
  | `(tactic| clean_wf) => `(tactic| repeat (first | refine ⟨_, rfl, ?_⟩ | refine ⟨rfl, ?_⟩ | refine ⟨_, _, rfl, ?_⟩ | refine ⟨_, _, rfl, rfl, ?_⟩ | refine ⟨_, _, _, rfl, ?_⟩ | refine ⟨_, _, _, _, rfl, ?_⟩))
local macro_rules
  | `(tactic| exists $u:ident, $n:ident, $H:ident, $q:ident, $e:ident) => `(tactic| (refine ⟨by first | exact Nat.zero_le _ | assumption | (simp only [List.length_cons, List.length_nil]; decide), fun $u $n => ?_⟩; generalize hh : upd _ $u _ = $H; obtain ⟨$q, $e⟩ := mkq $n hh; clear hh))
local macro_rules
  | `(tactic| simp_wf) => `(tactic| first | assumption | exact upd_same | (refine (by assumption : Same _ _) _ _ ?_; simp_wf) | (refine (by assumption : Kept _ _ _ _) _ _ ?_ (by assumption) (by assumption); simp_wf))
local macro_rules
  | `(tactic| decreasing_trivial) => `(tactic| first | assumption | exact .inl (.inl (by assumption)) | (refine sameT (by assumption) ?_; decreasing_trivial))
local macro_rules
  | `(tactic| array_get_dec) => `(tactic| first | assumption | (refine CdAt.same (by assumption) ?_; array_get_dec))
def isLetN (g : Nat) : Bool := decide (97 ≤ g) && decide (g ≤ 122)
theorem le_sign (a b : Nat) : (!decide ((⟨#[b]⟩ : Str).cps.toList < (⟨#[a]⟩ : Str).cps.toList)) = decide (a ≤ b) := by
  show (!decide ([b] < [a])) = _
  rw [Bool.eq_iff_iff]
  simp [List.cons_lt_cons_iff]
theorem sign_a : Str.ofString "a" = ⟨#[97]⟩ := by decide +kernel
theorem sign_z : Str.ofString "z" = ⟨#[122]⟩ := by decide +kernel
def lettersB (l : List Nat) : Bool := l.all isLetN
def isWd : PyData → Bool
  | .str s => lettersB s.cps.toList
  | _ => false
section
variable {P : Program} {w : World} {K : PySem.W.Frag} {mg : Str → Option Value} {base : Heap}
def spWd (K : PySem.W.Frag) : Sp := fun vs H Q _ => ∃ (x : V) (d : PyData), vs = [x] ∧ Dz K H x d ∧ (∀ s, d = .str s → s.length ≤ 50000) ∧ ∀ H2, Same H H2 → Q (.bl (isWd d)) H2
theorem fo_is_word {f : Addr} {fd0 : FuncData} (F : Fun K "is_word" "is_word" s_is_word f fd0) (T : Txt mg) : FnOk P w K mg base CX0 1 f fd0 ["thing"] (spWd K) := by
  refine F.ok sc_is_word (fun vs H Q E h => ?_) (fun cdv A outer s H vs Q E hr h => ?_)
  · obtain ⟨x, d, rfl, _⟩ := h
    rfl
  · obtain ⟨x, d, rfl, hd, hz, q⟩ := h
    have nd := sc_is_word.nd
    refine ⟨_, (pss_one (ps_ret (pe_and (pe_callB (k_isi (K := K)) (by rfl) T.isinstance (by decide +kernel) (pa_cons (pv 0) (pa_cons (pe_bltn (v := .ty "str") (by rfl) T.str (by decide +kernel) rfl) pa_nil))) (pe_one (pe_callB (k_all (K := K) rfl) (by rfl) T.all (by decide +kernel) (pa_cons (pe_lc (own := [("sign", 1)]) rfl nd (pi_str (pv 0)) (blkOk_by (N := N_is_word) (sc := defScope s_is_word) (by decide +kernel)) (fun _ _ _ _ _ => (pg_name (i := 1) nd rfl (Or.inl rfl))) (fun _ _ _ _ _ => pts_nil) (fun _ _ _ _ _ => (pe_chain op_le_str op_le_str pe_str (pv 1) pe_str))) pa_nil)))))), ?_⟩
    by_cases st : isStrD d = true
    case neg =>
      refine ⟨_, rfl, _, _, _, _, _, rfl, .ty "str", dz_ty hd, isx_str d, _, rfl, ifF (by simpa using st) ?_⟩
      have e : isWd d = false := by
        cases d <;> simp [isWd, isStrD] at st ⊢
      rw [e] at q
      exact q _ (Same.refl _)
    cases hd with
    | str z =>
      refine ⟨_, rfl, _, _, _, _, _, rfl, .ty "str", .base (.str _), kit_ty (by decide +kernel), _, rfl, ifT rfl ?_⟩
      have hz := hz z rfl
      have sz : z.cps.size = z.length := rfl
      refine ⟨_, rfl, z, rfl, fun D nD => ?_⟩
      refine lc_valW walk_str (by omega) nD (fun i => V.bl (isLetN (z.cps.toList.getD i 0))) (fun _ _ => trivial) ?_ ?_
      · rintro i x H2 H3 hi s2 ⟨rfl, g, hg, rfl⟩ R hR
        have hg2 : z.cps.toList[i]? = some g := by rw [← hg]; exact Array.getElem?_toList ..
        have eg : z.cps.toList.getD i 0 = g := by rw [List.getD_eq_getElem?_getD, hg2]; rfl
        rw [eg] at hR
        refine ⟨wipe1 _ _ _, ?_⟩
        refine ⟨_, rfl, _, _, rfl, rfl, _, rfl, ?_⟩
        rw [sign_a, sign_z, le_sign]
        by_cases h : 97 ≤ g
        · refine ifT (decide_eq_true h) ⟨_, _, rfl, rfl, ?_⟩
          rw [le_sign]
          have z : isLetN g = decide (g ≤ 122) := by unfold isLetN; rw [decide_eq_true h, Bool.true_and]
          rw [z] at hR
          exact hR _ (Same.refl _)
        · refine ifF (decide_eq_false h) ?_
          have z : isLetN g = false := by unfold isLetN; rw [decide_eq_false h, Bool.false_and]
          rw [z] at hR
          exact hR _ (Same.refl _)
      intro H2 s2 hD
      refine ⟨D, _, rfl, SqL.of (hD.trans (congrArg (fun l => some (HO.lst l)) (bls_map _))), ?_⟩
      have e : ((List.range z.cps.size).map fun i => isLetN (z.cps.toList.getD i 0)).all id = isWd (.str z) := by
        have h2 : (List.range z.cps.toList.length).map (fun i => isLetN (z.cps.toList.getD i 0)) = z.cps.toList.map isLetN := by
          refine List.ext_getElem (by simp) fun i h1 h2 => ?_
          have h3 : i < z.cps.toList.length := by simpa using h2
          rw [List.getElem_map, List.getElem_map, List.getElem_range, List.getD_eq_getElem?_getD, List.getElem?_eq_getElem h3]
          rfl
        rw [show z.cps.size = z.cps.toList.length from (Array.length_toList ..).symm, h2]
        unfold isWd lettersB
        rw [List.all_map]
        rfl
      rw [e]
      exact q _ s2
    | _ => exact absurd st (by simp [isStrD])
/-- a word of at most n letters -/
def Wd (n : Nat) (s : Str) : Prop := lettersB s.cps.toList = true ∧ s.length ≤ n
def spLWord : Sp := fun vs H Q _ => ∃ (d l : Addr) (c top : Nat), vs = [.ref d, .int top] ∧ Deck H d l c ∧ c < 900000 ∧ top ≤ 20 ∧ ∀ (s : Str) (c2 : Nat) (H2 : Hp), c2 ≤ c + 30 → Deck H2 d l c2 → Kept d l H H2 → Wd (top + 1) s → Q (.str s) H2
theorem ok_word {f f1 f2 : Addr} {fd fd1 fd2 : FuncData} (F : Fun K "_law_word" "_law_word" s__law_word f fd) (F__law_draw : Fun K "_law_draw" "_law_draw" s__law_draw f1 fd1) (m__law_draw : mg "_law_draw" = some (.ref f1)) (b__law_draw : Binds K fd1 ["_law_deck_here", "_law_below"] [])
    (F__law_pick : Fun K "_law_pick" "_law_pick" s__law_pick f2 fd2) (m__law_pick : mg "_law_pick" = some (.ref f2)) (b__law_pick : Binds K fd2 ["_law_deck_here", "_law_some"] []) (T : Txt mg) : GFn P w K mg base CX0 3 f fd ["_law_deck_here", "_law_top"] spLWord := by
  have G__law_draw : GFn P w K mg base CX0 1 f1 fd1 ["_law_deck_here", "_law_below"] spDraw := ok_draw F__law_draw T
  have G__law_pick : GFn P w K mg base CX0 2 f2 fd2 ["_law_deck_here", "_law_some"] (spPick K) := ok_pick F__law_pick F__law_draw m__law_draw b__law_draw T
  refine gfun_ok F sc__law_word (fun vs H Q E h => ?_) (fun cdv A outer s H vs Q E hgu hr h => ?_)
  · obtain ⟨d, l, c, top, rfl, _⟩ := h
    rfl
  · obtain ⟨d, l, c, top, rfl, Dk, hc, ht, q⟩ := h
    have nd := sc__law_word.nd
    refine ⟨_, (pss_cons (ps_set (i := 2) nd rfl (Or.inl rfl) (k_join (K := K) pe_str (pe_lc (own := [("_law_k", 3)]) rfl nd (pi_range1 rfl T.range (pa_cons (pe_g G__law_draw hgu (hr.mono (by decide)) (by rfl) m__law_draw F__law_draw.kp b__law_draw .nil pass0 (pa_cons (pv 0) (pa_cons (pe_op op_add (pv 1) pe_int) pa_nil))) pa_nil)) (blkOk_by (N := N__law_word) (sc := defScope s__law_word) (by decide +kernel)) (fun _ _ _ _ _ => (pg_name (i := 3) nd rfl (Or.inl rfl))) (fun _ _ _ _ _ => pts_nil) (fun _ _ _ _ _ => (pe_g G__law_pick hgu (hr.mono (by decide)) (by rfl) m__law_pick F__law_pick.kp b__law_pick .nil pass0 (pa_cons (pv 0) (pa_cons pe_str pa_nil)))))))
      (pss_one (ps_ret (pe_op op_add_str (pv 2) (pe_g G__law_pick hgu (hr.mono (by decide)) (by rfl) m__law_pick F__law_pick.kp b__law_pick .nil pass0 (pa_cons (pv 0) (pa_cons (pe_lst (pa_cons pe_str (pa_cons pe_str (pa_cons pe_str (pa_cons pe_str pa_nil))))) pa_nil))))))), ?_⟩
    refine ⟨⟨_, rfl⟩, _, rfl, _, rfl, _, _, rfl, rfl, d, l, c, (top : Int) + 1, rfl, Dk, by omega, by omega, by omega, fun r1 H1 r10 r11 D1 k1 => ?_⟩
    obtain ⟨n, rfl⟩ : ∃ n : Nat, r1 = (n : Int) := ⟨r1.toNat, by omega⟩
    refine ⟨_, rfl, by omega, by omega, fun E nE => ?_⟩
    rw [Int.toNat_natCast]
    have Ene := D1.ne nE
    refine lc_it (walk_range (lo := 0) (n := n)) (fun i HI => ∃ (gs : List Nat), Deck HI d l (c + 1 + i) ∧ Kept d l H HI ∧ HI E = some (.lst (gs.map fun g => V.str ⟨#[g]⟩)) ∧ gs.length = i ∧ ∀ g ∈ gs, isLetN g = true)
      ⟨[], D1.upd nE, k1.trans (Kept.of (same_new nE)), upd_same, rfl, fun g hg => nomatch hg⟩ (fun _ _ _ _ => trivial) ?_ ?_
    · rintro i x H6 H7 hi ⟨gs, D6, k6, hE, gl, gb⟩ ⟨rfl, hx⟩
      refine ⟨wipe1 _ _ _, yesI ?_⟩
      refine ⟨_, rfl, d, l, c + 1 + i, D6, by omega, .inr ⟨_, rfl, by decide, by decide, fun g H9 hg D9 k9 => ?_⟩⟩
      have hE9 := k9 _ _ hE Ene.1 Ene.2
      have gok : isLetN g = true := by
        have hz : (Str.ofString "aab").cps.toList = [97, 97, 98] := by decide +kernel
        rw [hz] at hg
        simp only [List.mem_cons, List.not_mem_nil, or_false] at hg
        rcases hg with rfl | rfl | rfl <;> decide
      refine ⟨_, hE9, Nat.lt_of_lt_of_le (show (gs.map fun g => V.str ⟨#[g]⟩).length < 5000 by rw [List.length_map]; omega) (by decide), gs ++ [g], ?_, ?_, by rw [upd_same, List.map_append]; rfl, by rw [List.length_append, gl]; rfl, ?_⟩
      · obtain ⟨cs, m, t, hd, hl, r⟩ := D9
        exact ⟨cs, m, t, (upd_ne Ene.1.symm).trans hd, (upd_ne Ene.2.symm).trans hl, r⟩
      · intro b o hb h1 h2
        have hbE : b ≠ E := fun z => by
          have := k1 b o hb h1 h2
          rw [z, nE] at this
          exact nomatch this
        rw [upd_ne hbE]
        exact k9 _ _ (k6 b o hb h1 h2) h1 h2
      · intro x hx
        rcases List.mem_append.mp hx with z | z
        · exact gb x z
        · rw [List.mem_singleton.mp z]
          exact gok
    rintro H6 ⟨gs, D6, k6, hE, gl, gb⟩
    refine ⟨_, E, gs.map fun g => (⟨#[g]⟩ : Str), rfl, rfl, .inl (SqL.of (by rw [hE, List.map_map]; rfl)), ?_, ?_⟩
    · have : (gs.map fun g => (⟨#[g]⟩ : Str)).map (·.length) = gs.map fun _ => 1 := by rw [List.map_map]; rfl
      rw [this]
      have : ((gs.map fun _ => 1).sum : Nat) = gs.length := by
        clear gl gb hE this
        induction gs with
        | nil => rfl
        | cons a gs ih => rw [List.map_cons, List.sum_cons, ih, List.length_cons]; omega
      rw [this, List.length_map]
      show gs.length + gs.length * 0 ≤ _
      omega
    rw [show Txt.join (Str.ofString "") (gs.map fun g => (⟨#[g]⟩ : Str)) = S gs from join_signs gs]
    refine ⟨_, rfl, _, rfl, by decide, fun pk npk => ?_⟩
    have D7 := D6.upd (o := .lst [V.str (Str.ofString ""), V.str (Str.ofString ""), V.str (Str.ofString "z"), V.str (Str.ofString "m")]) npk
    refine ⟨d, l, c + 1 + n, D7, by omega, .inl ⟨pk, _, rfl, SqL.of upd_same, (D6.ne npk).2, by simp, by decide, fun x H9 hx D9 k9 => ?_⟩⟩
    obtain ⟨u, rfl, hu⟩ : ∃ u : Str, x = V.str u ∧ lettersB u.cps.toList = true ∧ u.length ≤ 1 := by
      simp only [List.mem_cons, List.not_mem_nil, or_false] at hx
      rcases hx with rfl | rfl | rfl | rfl
      · exact ⟨_, rfl, by decide +kernel, by decide +kernel⟩
      · exact ⟨_, rfl, by decide +kernel, by decide +kernel⟩
      · exact ⟨_, rfl, by decide +kernel, by decide +kernel⟩
      · exact ⟨_, rfl, by decide +kernel, by decide +kernel⟩
    have sl : (S gs).length = gs.length := S_len gs
    refine ⟨_, _, rfl, rfl, Nat.le_trans (show (S gs).length + u.length ≤ 100 by rw [sl]; omega) (by decide), ?_⟩
    refine q _ _ H9 (by omega) D9 (k6.trans ((Kept.of (same_new npk)).trans k9)) ⟨?_, ?_⟩
    · show lettersB ((S gs).cps ++ u.cps).toList = true
      unfold lettersB at hu ⊢
      rw [Array.toList_append, List.all_append, hu.1, Bool.and_true, List.all_eq_true]
      intro g hg
      exact gb g (by simpa [S] using hg)
    · show ((S gs).cps ++ u.cps).size ≤ top + 1
      rw [Array.size_append]
      have : (S gs).cps.size = gs.length := sl
      have : u.cps.size ≤ 1 := hu.2
      omega
end
end SG

/-! repr of data with whole numbers below 10 ^ 330, whatever its form. -/
namespace SG
open PySem PySem.Spec PyProof PyProof.Rows L2
/-- small data: its whole numbers are below 10 ^ 330, its texts have no signs beyond the planes -/
def Sd (d : PyData) : Prop := PyData.leavesShort 340 d = true ∧ tellable d = true
def SdAll (ds : List PyData) : Prop := PyData.leavesShortAll 340 ds = true ∧ tellableAll ds = true
set_option exponentiation.threshold 5000 in
theorem Sd.int {i : Int} (h : i.natAbs < 10 ^ 330) : Sd (.int i) := by
  refine ⟨?_, ?_⟩
  · show decide ((PyData.shown (.int i)).length ≤ 340) = true
    refine decide_eq_true ?_
    rw [PyData.shown_int]
    have z := int_text_length_le10 (a := i) (k := 330) (by decide) h
    rw [PySem.ofString_length]
    omega
  · show decide (i.natAbs < 10 ^ 4300) = true
    exact decide_eq_true (Nat.lt_of_lt_of_le h (by decide +kernel))
theorem Sd.bl (b : Bool) : Sd (.bool b) := ⟨rfl, rfl⟩
theorem Sd.non : Sd .none := ⟨rfl, rfl⟩
theorem SdAll.nil : SdAll [] := ⟨rfl, rfl⟩
theorem SdAll.cons {d : PyData} {ds : List PyData} (h : Sd d) (t : SdAll ds) : SdAll (d :: ds) := by
  refine ⟨?_, ?_⟩
  · show (PyData.leavesShort 340 d && PyData.leavesShortAll 340 ds) = true
    rw [h.1, t.1]
    rfl
  · show (tellable d && tellableAll ds) = true
    rw [h.2, t.2]
    rfl
theorem SdAll.of : ∀ {ds : List PyData}, (∀ d ∈ ds, Sd d) → SdAll ds
  | [], _ => .nil
  | d :: ds, h => .cons (h d List.mem_cons_self) (.of fun x hx => h x (List.mem_cons_of_mem _ hx))
theorem Sd.tup {ds : List PyData} (h : SdAll ds) : Sd (.tuple ds) := ⟨h.1, h.2⟩
theorem Sd.lst {ds : List PyData} (h : SdAll ds) : Sd (.list ds) := ⟨h.1, h.2⟩
theorem Sd.nats {l : List Nat} (h : ∀ x ∈ l, x < 10 ^ 330) : SdAll (l.map fun x : Nat => PyData.int (x : Int)) := .of fun d hd => by
  obtain ⟨x, hx, rfl⟩ := List.mem_map.mp hd
  exact .int (by rw [Int.natAbs_natCast]; exact h x hx)
theorem dpNats {K : PySem.W.Frag} {H : Hp} : ∀ l : List Nat, DpAll K H (l.map fun x : Nat => V.int (x : Int)) (l.map fun x : Nat => PyData.int (x : Int))
  | [] => .nil
  | x :: l => .cons (.int _) (dpNats l)
theorem bulk_nats : ∀ l : List Nat, PyData.bulkAll (l.map fun x : Nat => PyData.int (x : Int)) = l.length
  | [] => rfl
  | x :: l => by
    show 0 + 1 + PyData.bulkAll (l.map fun x : Nat => PyData.int (x : Int)) = _
    rw [bulk_nats l, List.length_cons]
    omega
theorem depth_nats : ∀ l : List Nat, PyData.depthAll (l.map fun x : Nat => PyData.int (x : Int)) = 0
  | [] => rfl
  | x :: l => by
    show max 0 (PyData.depthAll (l.map fun x : Nat => PyData.int (x : Int))) = 0
    rw [depth_nats l]
    rfl
/-- one by one -/
theorem dpAt {K : PySem.W.Frag} {H : Hp} : ∀ {vs : List V} {ds : List PyData}, vs.length = ds.length → (∀ (i : Nat) (v : V) (d : PyData), vs[i]? = some v → ds[i]? = some d → Dp K H v d) → DpAll K H vs ds
  | [], [], _, _ => .nil
  | [], _ :: _, h, _ => nomatch h
  | _ :: _, [], h, _ => nomatch h
  | v :: vs, d :: ds, h, f => .cons (f 0 v d rfl rfl) (dpAt (by simpa using h) fun i v d hv hd => f (i + 1) v d hv hd)
theorem bulk_le {b : Nat} : ∀ {ds : List PyData}, (∀ d ∈ ds, d.bulk ≤ b) → PyData.bulkAll ds ≤ ds.length * (b + 1)
  | [], _ => Nat.zero_le _
  | d :: ds, h => by
    show d.bulk + 1 + PyData.bulkAll ds ≤ _
    have h1 := h d List.mem_cons_self
    have h2 := bulk_le (b := b) (ds := ds) fun x hx => h x (List.mem_cons_of_mem _ hx)
    rw [List.length_cons, Nat.succ_mul]
    omega
theorem depth_le {b : Nat} : ∀ {ds : List PyData}, (∀ d ∈ ds, d.depth ≤ b) → PyData.depthAll ds ≤ b
  | [], _ => Nat.zero_le _
  | d :: ds, h => by
    show max d.depth (PyData.depthAll ds) ≤ _
    exact Nat.max_le.mpr ⟨h d List.mem_cons_self, depth_le fun x hx => h x (List.mem_cons_of_mem _ hx)⟩
theorem rep_small {K : PySem.W.Frag} {H : Hp} {x : V} {d : PyData} {Q : VK} (h : Dp K H x d) (s : Sd d) (dep : d.depth ≤ 60) (bk : d.bulk ≤ 10000) (q : Q (.str d.shown) H) : rRepr K [x] H Q := by
  refine ⟨x, rfl, .inl ⟨d, h, s.2, dep, ?_, q⟩⟩
  have z := PyData.shown_le_bulk 340 (by decide) d s.1
  have : sizeLine = 16777216 := by decide
  have := Nat.mul_le_mul_left (340 + 2) bk
  omega
end SG

/-! What the law says of two words. -/
namespace SG
open PySem PySem.Spec PyProof.Rows L2 TL
local macro_rules
  | `(tactic| clean_wf) => `(tactic| repeat (first | refine ⟨_, rfl, ?_⟩ | refine ⟨rfl, ?_⟩ | refine ⟨_, _, rfl, ?_⟩ | refine ⟨_, _, rfl, rfl, ?_⟩ | refine ⟨_, _, _, rfl, ?_⟩ | refine ⟨_, _, _, _, rfl, ?_⟩))
local macro_rules
  | `(tactic| exists $u:ident, $n:ident, $H:ident, $q:ident, $e:ident) => `(tactic| (refine ⟨by first | exact Nat.zero_le _ | assumption | (simp only [List.length_cons, List.length_nil]; decide), fun $u $n => ?_⟩; generalize hh : upd _ $u _ = $H; obtain ⟨$q, $e⟩ := mkq $n hh; clear hh))
local macro_rules
  | `(tactic| simp_wf) => `(tactic| first | assumption | exact upd_same | (refine (by assumption : Same _ _) _ _ ?_; simp_wf) | (refine (by assumption : Kept _ _ _ _) _ _ ?_ (by assumption) (by assumption); simp_wf))
local macro_rules
  | `(tactic| decreasing_trivial) => `(tactic| first | assumption | exact .inl (.inl (by assumption)) | (refine sameT (by assumption) ?_; decreasing_trivial))
local macro_rules
  | `(tactic| array_get_dec) => `(tactic| first | assumption | (refine CdAt.same (by assumption) ?_; array_get_dec))
theorem cutN (z : Str) (n : Nat) : (cutS z none (some (n : Int))).cps.toList = z.cps.toList.take n := by
  have e : (cutS z none (some (n : Int))).cps.toList = (z.cps.toList.drop (HT.sIx z.length 0 none)).take (HT.sIx z.length z.length (some (n : Int)) - HT.sIx z.length 0 none) := rfl
  rw [e, HT.sIx_none, HT.sIx_nat, List.drop_zero, Nat.sub_zero]
  have l : z.cps.toList.length = z.length := Array.length_toList ..
  rcases Nat.le_total n z.length with h | h
  · rw [Nat.min_eq_left h]
  · rw [Nat.min_eq_right h, List.take_of_length_le (by omega), List.take_of_length_le (by omega)]
theorem cp_take : ∀ l m : List Nat, l.take (cp l m) = m.take (cp m l)
  | [], [] => rfl
  | [], _ :: _ => by
    unfold cp
    rfl
  | _ :: _, [] => by
    unfold cp
    rfl
  | a :: l, b :: m => by
    unfold cp
    by_cases e : a = b
    · subst e
      rw [if_pos rfl, if_pos rfl, List.take_succ_cons, List.take_succ_cons, cp_take l m]
    · rw [if_neg e, if_neg (Ne.symm e)]
      rfl
theorem str_ext {x y : Str} (h : x.cps.toList = y.cps.toList) : x = y := by
  cases x; cases y
  exact congrArg Str.mk (Array.toList_inj.mp h)
theorem cp_sym (x y : Str) : cutS y none (some (cp y.cps.toList x.cps.toList : Nat)) = cutS x none (some (cp x.cps.toList y.cps.toList : Nat)) := str_ext (by rw [cutN, cutN, cp_take])
theorem ok_str {s : Str} (h : lettersB s.cps.toList = true) : PyData.strOk s = true := by
  unfold PyData.strOk
  rw [← Array.all_toList, List.all_eq_true]
  intro g hg
  have y := List.all_eq_true.mp h g hg
  unfold isLetN at y
  rw [Bool.and_eq_true, decide_eq_true_eq, decide_eq_true_eq] at y
  exact decide_eq_true (by omega)
theorem take_ok {x : Str} (h : lettersB x.cps.toList = true) (n : Nat) : lettersB (cutS x none (some (n : Int))).cps.toList = true := by
  rw [cutN]
  unfold lettersB at h ⊢
  rw [List.all_eq_true] at h ⊢
  exact fun g hg => h g (List.mem_of_mem_take hg)
theorem rep_sm {K : PySem.W.Frag} {H : Hp} {x : V} {xs : List V} {d : PyData} {Q : VK} (h : Dp K H x d) (e : xs = [x]) (s : Sd d ∧ d.depth ≤ 60 ∧ d.bulk ≤ 10000) (q : Q (.str d.shown) H) : rRepr K xs H Q := e ▸ rep_small h s.1 s.2.1 s.2.2 q
theorem lex_tri : ∀ l m : List Nat, l < m ∨ l = m ∨ m < l
  | [], [] => .inr (.inl rfl)
  | [], _ :: _ => .inl (List.nil_lt_cons _ _)
  | _ :: _, [] => .inr (.inr (List.nil_lt_cons _ _))
  | a :: l, b :: m => by
    rcases Nat.lt_trichotomy a b with h | h | h
    · exact .inl (List.cons_lt_cons_iff.mpr (.inl h))
    · subst h
      rcases lex_tri l m with h | h | h
      · exact .inl (List.cons_lt_cons_iff.mpr (.inr ⟨rfl, h⟩))
      · exact .inr (.inl (by rw [h]))
      · exact .inr (.inr (List.cons_lt_cons_iff.mpr (.inr ⟨rfl, h⟩)))
    · exact .inr (.inr (List.cons_lt_cons_iff.mpr (.inl h)))
theorem orV_key {b : Bool} {B : TE} {σ : L2.St} {H : Hp} {R : VK} (v : V) (key : R v H) (h1 : b = true → V.bl b = v) (h2 : b = false → R v H → B σ H R) : if b = true then R (V.bl b) H else B σ H R := by
  cases b with
  | true => exact ifT rfl (by rw [h1 rfl]; exact key)
  | false => exact ifF rfl (h2 rfl key)
theorem ahead_tri (x y : Str) : aheadB y x = true ∨ aheadB x y = true ∨ x = y := by
  unfold aheadB
  by_cases h1 : y.length < x.length
  · left
    rw [decide_eq_true h1]
    rfl
  by_cases h2 : x.length < y.length
  · right; left
    rw [decide_eq_true h2]
    rfl
  have e : x.length = y.length := by omega
  rw [decide_eq_false h1, decide_eq_false h2, decide_eq_true e, decide_eq_true e.symm]
  simp only [Bool.false_or, Bool.true_and, decide_eq_true_iff]
  rcases lex_tri y.cps.toList x.cps.toList with h | h | h
  · exact .inl h
  · right; right
    cases x; cases y
    exact congrArg Str.mk (Array.toList_inj.mp h.symm)
  · exact .inr (.inl h)
theorem ne_self (s : Str) : V.bl (!decide (V.str s = V.str s)) = V.bl false := by simp
section
variable {P : Program} {w : World} {K : PySem.W.Frag} {mg : Str → Option Value} {base : Heap}
theorem ok_common {f : Addr} {fd : FuncData} (F : Fun K "_law_common" "_law_common" s__law_common f fd) (T : Txt mg) : GFn P w K mg base CX0 1 f fd ["_law_own", "_law_mate"] spCp := by
  refine gfun_ok F sc__law_common (fun vs H Q E h => ?_) (fun cdv A outer s H vs Q E hgu hr h => ?_)
  · obtain ⟨x, y, rfl, _⟩ := h
    rfl
  · obtain ⟨x, y, rfl, hx, hy, q⟩ := h
    have nd := sc__law_common.nd
    refine ⟨_, (pss_cons (ps_set (i := 2) nd rfl (Or.inl rfl) pe_int)
      (pss_cons (ps_while PassesOwn.never (PW.pt (pw_and (pt_cmpR op_lt (pv 2) (pe_callB (call_min2 rfl) (by rfl) T.min (by decide +kernel) (pa_cons (pe_callB call_len_str (by rfl) T.len (by decide +kernel) (pa_cons (pv 0) pa_nil)) (pa_cons (pe_callB call_len_str (by rfl) T.len (by decide +kernel) (pa_cons (pv 1) pa_nil)) pa_nil))) (nomark _)) (pw_and1 (pt_cmpR op_eq (pe_ix ix_str (pv 0) (pv 2) (fun _ _ => rfl)) (pe_ix ix_str (pv 1) (pv 2) (fun _ _ => rfl)) (nomark _))))) (pss_one (ps_set (i := 2) nd rfl (Or.inl rfl) (pe_op op_add (pv 2) pe_int))))
      (pss_one (ps_ret (pe_slice sl_str (pv 0) po_none (po_some (pv 2))))))), ?_⟩
    have lx : x.cps.toList.length = x.length := Array.length_toList ..
    have ly : y.cps.toList.length = y.length := Array.length_toList ..
    have sz : ∀ n : Nat, n ≤ 1000 → n ≤ sizeLine := fun n h => Nat.le_trans h (by decide)
    refine ⟨fun M σ HI => ∃ k : Nat, σ = [some (.str x), some (.str y), some (.int (k : Nat))] ∧ HI = H ∧ k ≤ min x.length y.length ∧ (∀ j, j < k → x.cps.toList[j]? = y.cps.toList[j]?) ∧ M = min x.length y.length - k, ⟨_, 0, rfl, rfl, Nat.zero_le _, fun j hj => absurd hj (Nat.not_lt_zero _), rfl⟩, ?_⟩
    rintro M σ HI ⟨k, rfl, rfl, hk, eq, rfl⟩
    have out : (k = min x.length y.length ∨ x.cps.toList[k]? ≠ y.cps.toList[k]?) → Q (.str (cutS x none (some (k : Nat)))) HI := fun h => by
      have z := cp_is x.cps.toList y.cps.toList k (by omega) (by omega) eq (by rw [lx, ly]; exact h)
      rw [z] at q
      exact q _ (Same.refl _)
    refine ⟨_, rfl, _, rfl, x, rfl, sz _ hx, _, rfl, y, rfl, sz _ hy, _, _, rfl, ?_⟩
    have em : (if (y.length : Int) < x.length then (y.length : Int) else x.length) = ((min x.length y.length : Nat) : Int) := by split <;> omega
    refine ⟨_, _, rfl, rfl, _, rfl, ?_⟩
    refine ifs_key (fun h => ?_) (fun h => ?_)
    · have h := of_decide_eq_true h
      have k1 : k < x.length := by omega
      have k2 : k < y.length := by omega
      have g1 : x.cps.toList[k]? = some (x.cps.toList[k]'(by omega)) := List.getElem?_eq_getElem _
      have g2 : y.cps.toList[k]? = some (y.cps.toList[k]'(by omega)) := List.getElem?_eq_getElem _
      generalize x.cps.toList[k]'(by omega) = c1 at g1
      generalize y.cps.toList[k]'(by omega) = c2 at g2
      refine ⟨_, rfl, _, rfl, x, k, c1, rfl, rfl, sz _ hx, atI_nat g1, ?_⟩
      refine ⟨_, rfl, _, rfl, y, k, c2, rfl, rfl, sz _ hy, atI_nat g2, rfl, _, rfl, ?_⟩
      by_cases ce : c1 = c2
      · subst ce
        refine ifT (by simp) ⟨fun σ HJ => σ = [some (.str x), some (.str y), some (.int ((k + 1 : Nat) : Int))] ∧ HJ = HI, fun σ HJ z => ?_, _, rfl, _, _, rfl, rfl, rfl, rfl⟩
        obtain ⟨rfl, rfl⟩ := z
        refine ⟨min x.length y.length - (k + 1), by omega, k + 1, rfl, rfl, by omega, fun j hj => ?_, rfl⟩
        by_cases z : j < k
        · exact eq j z
        · obtain rfl : j = k := by omega
          rw [g1, g2]
      · refine ifF (by simpa using ce) ⟨_, rfl, _, rfl, _, rfl, x, rfl, sz _ hx, out (.inr (by rw [g1, g2]; simpa using ce))⟩
    · have h := of_decide_eq_false h
      refine ⟨_, rfl, _, rfl, _, rfl, x, rfl, sz _ hx, out (.inl (by omega))⟩
def spTwo : Sp := fun vs H Q _ => ∃ x y : Str, vs = [.str x, .str y] ∧ x.length ≤ 100 ∧ y.length ≤ 100 ∧ lettersB x.cps.toList = true ∧ ∀ H2, Same H H2 → Q (.bl true) H2
theorem ok_two {f f1 f2 f3 : Addr} {fd fd1 fd2 fd3 : FuncData} (hdg : base.NoDigits) (F : Fun K "_law_two_right" "_law_two_right" s__law_two_right f fd) (F__law_common : Fun K "_law_common" "_law_common" s__law_common f1 fd1) (m__law_common : mg "_law_common" = some (.ref f1)) (b__law_common : Binds K fd1 ["_law_own", "_law_mate"] [])
    (F_is_ahead : Fun K "is_ahead" "is_ahead" s_is_ahead f2 fd2) (m_is_ahead : mg "is_ahead" = some (.ref f2)) (b_is_ahead : Binds K fd2 ["one", "other"] []) (kb_is_ahead_other_one : KBinds K fd2 ["one", "other"] ["other", "one"] kwTurn kwTurn)
    (F_common_beginning : Fun K "common_beginning" "common_beginning" s_common_beginning f3 fd3) (m_common_beginning : mg "common_beginning" = some (.ref f3)) (b_common_beginning : Binds K fd3 ["one", "other"] []) (kb_common_beginning_other_one : KBinds K fd3 ["one", "other"] ["other", "one"] kwTurn kwTurn) (T : Txt mg) :
    GFn P w K mg base CX0 2 f fd ["_law_own", "_law_mate"] spTwo := by
  have G__law_common : GFn P w K mg base CX0 1 f1 fd1 ["_law_own", "_law_mate"] spCp := ok_common F__law_common T
  have G_is_ahead : GFn P w K mg base CX0 1 f2 fd2 ["one", "other"] spAhead := .of (fo_is_ahead F_is_ahead T)
  have G_common_beginning : GFn P w K mg base CX0 1 f3 fd3 ["one", "other"] spCp := .of (fo_cp F_common_beginning T)
  refine gfun_ok F sc__law_two_right (fun vs H Q E h => ?_) (fun cdv A outer s H vs Q E hgu hr h => ?_)
  · obtain ⟨x, y, rfl, _⟩ := h
    rfl
  · obtain ⟨x, y, rfl, hx, hy, lx, q⟩ := h
    have nd := sc__law_two_right.nd
    refine ⟨_, (pss_cons (ps_set (i := 2) nd rfl (Or.inl rfl) (pe_or (pe_cmpR op_lt (pe_callB call_len_str (by rfl) T.len (by decide +kernel) (pa_cons (pv 0) pa_nil)) (pe_callB call_len_str (by rfl) T.len (by decide +kernel) (pa_cons (pv 1) pa_nil)) (nomark _)) (pe_one (pe_and (pe_cmpR op_eq (pe_callB call_len_str (by rfl) T.len (by decide +kernel) (pa_cons (pv 0) pa_nil)) (pe_callB call_len_str (by rfl) T.len (by decide +kernel) (pa_cons (pv 1) pa_nil)) (nomark _)) (pe_one (pe_cmpR op_lt_str (pv 0) (pv 1) (nomark _)))))))
      (pss_cons (ps_if (pt_cmpR op_ne (pe_callB (k_repr (K := K) hdg hgu hr) (by rfl) T.repr (by decide +kernel) (pa_cons (pe_lst (pa_cons (pe_g G_is_ahead hgu (hr.mono (by decide)) (by rfl) m_is_ahead F_is_ahead.kp b_is_ahead .nil pass0 (pa_cons (pv 0) (pa_cons (pv 1) pa_nil))) (pa_cons (pe_gK0 G_is_ahead hgu (hr.mono (by decide)) (by rfl) m_is_ahead F_is_ahead.kp kb_is_ahead_other_one pass0 (pk_cons (pv 1) (pk_cons (pv 0) pk_nil))) pa_nil))) pa_nil)) (pe_callB (k_repr (K := K) hdg hgu hr) (by rfl) T.repr (by decide +kernel) (pa_cons (pe_lst (pa_cons (pv 2) (pa_cons (pv 2) pa_nil))) pa_nil)) (nomark _)) (pss_one (ps_ret pe_bl)) pss_nil)
      (pss_cons (ps_set (i := 3) nd rfl (Or.inl rfl) (pe_lst (pa_cons (pe_g G_common_beginning hgu (hr.mono (by decide)) (by rfl) m_common_beginning F_common_beginning.kp b_common_beginning .nil pass0 (pa_cons (pv 0) (pa_cons (pv 1) pa_nil))) (pa_cons (pe_gK0 G_common_beginning hgu (hr.mono (by decide)) (by rfl) m_common_beginning F_common_beginning.kp kb_common_beginning_other_one pass0 (pk_cons (pv 0) (pk_cons (pv 1) pk_nil))) pa_nil))))
      (pss_one (ps_ret (pe_and (pe_cmpR (k_eqD (K := K) hr.units) (pv 3) (pe_op op_rep (pe_lst (pa_cons (pe_g G__law_common hgu (hr.mono (by decide)) (by rfl) m__law_common F__law_common.kp b__law_common .nil pass0 (pa_cons (pv 0) (pa_cons (pv 1) pa_nil))) pa_nil)) pe_int) (nomark _)) (pe_one (pe_or (pe_g G_is_ahead hgu (hr.mono (by decide)) (by rfl) m_is_ahead F_is_ahead.kp b_is_ahead .nil pass0 (pa_cons (pv 1) (pa_cons (pv 0) pa_nil))) (pe_or (pv 2) (pe_one (pe_cmpR op_eq (pv 0) (pv 1) (nomark _)))))))))))), ?_⟩
    have sz : ∀ n : Nat, n ≤ 1000 → n ≤ sizeLine := fun n h => Nat.le_trans h (by decide)
    refine ⟨_, rfl, x, rfl, sz _ (by omega), _, rfl, y, rfl, sz _ (by omega), _, _, rfl, rfl, _, rfl, ?_⟩
    have tri := ahead_tri x y
    refine ifs_key (fun h => ?_) (fun h => ?_)
    have e : aheadB x y = true := by
      have := of_decide_eq_true h
      unfold aheadB
      rw [decide_eq_true (show x.length < y.length by omega)]
      rfl
    dsimp only
    rw [show V.bl true = V.bl (aheadB x y) from congrArg V.bl e.symm]
    rotate_left
    have n1 : ¬ x.length < y.length := by
      have := of_decide_eq_false h
      omega
    refine ⟨_, rfl, x, rfl, sz _ (by omega), _, rfl, y, rfl, sz _ (by omega), rfl, _, rfl, ?_⟩
    refine ifs_key (fun h2 => ?_) (fun h2 => ?_)
    have n2 : x.length = y.length := by
      have := of_decide_eq_true h2
      injection this with this
      omega
    refine ⟨_, rfl, _, rfl, x, y, rfl, rfl, ?_⟩
    have e : aheadB x y = decide (x.cps.toList < y.cps.toList) := by
      unfold aheadB
      rw [decide_eq_false n1, decide_eq_true n2]
      rfl
    rw [← e]
    rotate_left
    have n2 : ¬ x.length = y.length := fun z => by
      have := of_decide_eq_false h2
      exact this (by rw [z])
    have e : aheadB x y = false := by
      unfold aheadB
      rw [decide_eq_false n1, decide_eq_false n2]
      rfl
    dsimp only
    rw [show V.bl false = V.bl (aheadB x y) from congrArg V.bl e.symm]
    all_goals clear e
    all_goals
      refine ⟨_, rfl, _, rfl, x, y, rfl, by omega, by omega, fun H1 s1 => ⟨_, rfl, _, rfl, x, y, rfl, by omega, by omega, fun H2 s2 => ⟨by show 2 ≤ sizeLine; decide, fun p1 np1 => ?_⟩⟩⟩
      have dok : Sd (.list [.bool (aheadB x y), .bool (aheadB x y)]) ∧ (PyData.list [.bool (aheadB x y), .bool (aheadB x y)]).depth ≤ 60 ∧ (PyData.list [.bool (aheadB x y), .bool (aheadB x y)]).bulk ≤ 10000 := ⟨.lst (.cons (.bl _) (.cons (.bl _) .nil)), by simp [PyData.depth, PyData.depthAll], by simp [PyData.bulk, PyData.bulkAll]⟩
      dsimp only [tNil, tCons, tC, List.cons_append, List.nil_append]
      refine rep_sm (.lst (SqL.of upd_same) (.cons (.bl _) (.cons (.bl _) .nil))) rfl dok ?_
      have s3 := s1.trans (s2.trans (same_new (o := .lst [V.bl (aheadB x y), V.bl (aheadB x y)]) np1))
      generalize upd H2 p1 (.lst [V.bl (aheadB x y), V.bl (aheadB x y)]) = H3 at s3 ⊢
      refine ⟨_, rfl, _, rfl, by show 2 ≤ sizeLine; decide, fun p2 np2 => ?_⟩
      dsimp only [tNil, tCons, tC, List.cons_append, List.nil_append]
      refine rep_sm (.lst (SqL.of upd_same) (.cons (.bl _) (.cons (.bl _) .nil))) rfl dok ⟨rfl, false, ne_self _, ifF rfl (nextI ?_)⟩
      have s4 := s3.trans (same_new (o := .lst [V.bl (aheadB x y), V.bl (aheadB x y)]) np2)
      generalize upd H3 p2 (.lst [V.bl (aheadB x y), V.bl (aheadB x y)]) = H4 at s4 ⊢
      clear dok s3 np1 np2 s1 s2
      refine ⟨_, rfl, _, rfl, x, y, rfl, by omega, by omega, fun H5 s5 => ⟨_, rfl, _, rfl, y, x, rfl, by omega, by omega, fun H6 s6 => ⟨by show 2 ≤ sizeLine; decide, fun p3 np3 => ?_⟩⟩⟩
      rw [cp_sym x y]
      have oc := ok_str (take_ok lx (cp x.cps.toList y.cps.toList))
      generalize hcc : cutS x none (some (cp x.cps.toList y.cps.toList : Nat)) = cc at oc
      have shc : SeqAt.shaped (.list [.str cc, .str cc]) = true := by simp [SeqAt.shaped, PyData.canLay0, PyData.canLayAll0, PyData.depth, PyData.depthAll, oc]
      have h7 : upd H6 p3 (.lst [V.str cc, V.str cc]) p3 = some (.lst [V.str cc, V.str cc]) := upd_same
      have s7 := s4.trans (s5.trans (s6.trans (same_new (o := .lst [V.str cc, V.str cc]) np3)))
      generalize upd H6 p3 (.lst [V.str cc, V.str cc]) = H7 at s7 h7 ⊢
      refine ⟨_, rfl, _, rfl, _, rfl, x, y, rfl, by omega, by omega, fun H8 s8 => ⟨by show 1 ≤ sizeLine; decide, fun pX npX => ⟨pX, 2, [.str cc], rfl, rfl, ?_, by decide, by decide, by show 2 ≤ sizeLine; decide, fun pY npY => ?_⟩⟩⟩
      · rw [hcc]
        exact upd_same
      rw [hcc] at npY ⊢
      have x2 := s8.trans ((same_new (o := .lst [V.str cc]) npX).trans (same_new (o := .lst (List.replicate ((2 : Int).toNat) [V.str cc]).flatten) npY))
      have h9 : upd (upd H8 pX (.lst [V.str cc])) pY (.lst (List.replicate ((2 : Int).toNat) [V.str cc]).flatten) pY = some (.lst [V.str cc, V.str cc]) := upd_same
      have h79 := x2 _ _ h7
      have s9 := s7.trans x2
      generalize upd (upd H8 pX (.lst [V.str cc])) pY (.lst (List.replicate ((2 : Int).toNat) [V.str cc]).flatten) = H9 at h9 h79 s9 ⊢
      refine ⟨.list [.str cc, .str cc], .list [.str cc, .str cc], .lst (SqL.of h79) (.cons (.str _) (.cons (.str _) .nil)), .lst (SqL.of h9) (.cons (.str _) (.cons (.str _) .nil)), shc, shc, true, congrArg V.bl (by simp [PyData.eqv, PyData.eqvAll]), ifT rfl ?_⟩
      refine ⟨_, rfl, _, rfl, y, x, rfl, by omega, by omega, fun HA sA => ⟨_, rfl, ?_⟩⟩
      have sF := s9.trans sA
      refine ifs_key (fun g1 => ?_) (fun g1 => ?_)
      · exact q _ sF
      refine ⟨_, rfl, _, rfl, ifs_key (fun g2 => ?_) (fun g2 => ?_)⟩
      · exact q _ sF
      have e := tri.resolve_left (by rw [g1]; exact Bool.false_ne_true)
      have e := e.resolve_left (by rw [g2]; exact Bool.false_ne_true)
      subst e
      refine ⟨_, rfl, _, rfl, rfl, ?_⟩
      have z := q _ sF
      rw [show V.bl true = V.bl (decide (V.str x = V.str x)) by simp] at z
      exact z
end
end SG

/-! The exception classes: what the written part says of them, their __init__s. -/
namespace SG
open PySem PySem.Spec PyProof.Rows L2 TL
local macro_rules
  | `(tactic| clean_wf) => `(tactic| repeat (first | refine ⟨_, rfl, ?_⟩ | refine ⟨rfl, ?_⟩ | refine ⟨_, _, rfl, ?_⟩ | refine ⟨_, _, rfl, rfl, ?_⟩ | refine ⟨_, _, _, rfl, ?_⟩ | refine ⟨_, _, _, _, rfl, ?_⟩))
local macro_rules
  | `(tactic| exists $u:ident, $n:ident, $H:ident, $q:ident, $e:ident) => `(tactic| (refine ⟨by first | exact Nat.zero_le _ | assumption | (simp only [List.length_cons, List.length_nil]; decide), fun $u $n => ?_⟩; generalize hh : upd _ $u _ = $H; obtain ⟨$q, $e⟩ := mkq $n hh; clear hh))
local macro_rules
  | `(tactic| simp_wf) => `(tactic| first | assumption | exact upd_same | (refine (by assumption : Same _ _) _ _ ?_; simp_wf) | (refine (by assumption : Kept _ _ _ _) _ _ ?_ (by assumption) (by assumption); simp_wf))
local macro_rules
  | `(tactic| decreasing_trivial) => `(tactic| first | assumption | exact .inl (.inl (by assumption)) | (refine sameT (by assumption) ?_; decreasing_trivial))
local macro_rules
  | `(tactic| array_get_dec) => `(tactic| first | assumption | (refine CdAt.same (by assumption) ?_; array_get_dec))
def cNames : List Str := [Str.ofString "BadFormat", Str.ofString "BadSheet", Str.ofString "BadText", Str.ofString "BadLetters", Str.ofString "NotIn", Str.ofString "TooLong", Str.ofString "UnlikeRows", Str.ofString "NoWords", Str.ofString "Endless", Str.ofString "Uneven", Str.ofString "BadCode", Str.ofString "TwoWays", Str.ofString "NoMessage", Str.ofString "TooMuch", Str.ofString "BadLot", Str.ofString "TooFar", Str.ofString "TooMany", Str.ofString "Doubles", Str.ofString "NotThin", Str.ofString "BadName", Str.ofString "NameTaken", Str.ofString "NoBook", Str.ofString "NoName", Str.ofString "NoWordLeft", Str.ofString "IssuedBefore", Str.ofString "NotDrawn", Str.ofString "NotInForce", Str.ofString "BadSign", Str.ofString "StillInForce", Str.ofString "BadDeed", Str.ofString "HasBeginnings", Str.ofString "NothingToUndo", Str.ofString "InvalidCommand"]
def cAttrs : List Str := [Str.ofString "part", Str.ofString "part", Str.ofString "place", Str.ofString "pairs", Str.ofString "word", Str.ofString "most", Str.ofString "length", Str.ofString "length", Str.ofString "paper", Str.ofString "shares", Str.ofString "part", Str.ofString "paper", Str.ofString "place", Str.ofString "share", Str.ofString "part", Str.ofString "most", Str.ofString "most", Str.ofString "paper", Str.ofString "paper", Str.ofString "name", Str.ofString "name", Str.ofString "name", Str.ofString "name", Str.ofString "name", Str.ofString "word", Str.ofString "tosses", Str.ofString "word", Str.ofString "sign", Str.ofString "word", Str.ofString "number"]
abbrev cN (i : Nat) : Str := cNames.getD i ""
abbrev cA (i : Nat) : Str := cAttrs.getD i ""
abbrev exE : List Value := [.type "Exception", .type "BaseException", .type "object"]
/-- HasBeginnings keeps both -/
def spHB (C : Addr) : Sp := fun vs H Q _ => ∃ (a : Addr) (v u : V), vs = [.ref a, v, u] ∧ H a = some (exo a C none) ∧ ∀ dx, H dx = none → dx ≠ a → Q .non (upd (upd (upd H dx (exd dx [("one", v)])) a (exo a C (some dx))) dx (exd dx [("other", u), ("one", v)]))
theorem upto0 {p : Nat → Prop} : ∀ i, i < 0 → p i := fun _ h => absurd h (Nat.not_lt_zero _)
theorem upto1 {p : Nat → Prop} {n : Nat} (h : ∀ i, i < n → p i) (hn : p n) : ∀ i, i < n + 1 → p i := fun i hi => (Nat.lt_succ_iff_lt_or_eq.mp hi).elim (h i) fun e => e ▸ hn
/-- all that is said of the classes: where they stand (A), their __init__s (I, D) -/
structure Kit (P : Program) (w : World) (K : PySem.W.Frag) (mg : Str → Option Value) (base : Heap) (A I : Nat → Addr) (D : Nat → FuncData) (S : Addr) : Prop where
  m : ∀ i, i < 33 → mg (cN i) = some (.ref (A i))
  mS : mg "SerialError" = some (.ref S)
  own : ∀ i, i < 31 → OwnX K (A i)
  x : ∀ i, i < 33 → XC K (A i)
  i : ∀ i, i < 31 → PySem.W.findIn K (.ref (A i)) "__init__" = some (some (.ref (I i)))
  t : ∀ i, i < 31 → PySem.W.typeIn K (.ref (I i)) = some (.type "function")
  no : ∀ i, i < 30 → PySem.W.findIn K (.ref (A i)) (cA i) = some none
  G : ∀ i, i < 30 → FnOk P w K mg base CX0 1 (I i) (D i) ["self", cA i] (spKeep (A i) (cA i))
  b : ∀ i, i < 30 → Binds K (D i) ["self", cA i] []
  kb : ∀ i, i < 30 → KBinds K (D i) ["self", cA i] [cA i] kwSelf1 kwSelf1
  hG : FnOk P w K mg base CX0 1 (I 30) (D 30) ["self", "one", "other"] (spHB (A 30))
  hb : Binds K (D 30) ["self", "one", "other"] []
  hkb : KBinds K (D 30) ["self", "one", "other"] ["other", "one"] kwSelf kwSelf
  h1 : PySem.W.findIn K (.ref (A 30)) "one" = some none
  h2 : PySem.W.findIn K (.ref (A 30)) "other" = some none
  q : ∀ i, i = 31 ∨ i = 32 → PySem.W.excIn K (A i) exE "Exception.__new__" = true
  k : ∀ i, i = 31 ∨ i = 32 → PySem.W.keepIn K (.ref (A i)) = true
  kit : ∀ i j, i < 33 → j < 33 → PySem.W.kitOne K (.ref (A i)) (.ref (A j)) = some (decide (i = j))
  ks : ∀ i, i < 33 → Kits K S (A i)
  e1 : PySem.W.exmOne K (.ref (A 26)) (.ref (A 28)) = some false
  e2 : PySem.W.exmOne K (.ref (A 26)) (.ref S) = some true
section
variable {P : Program} {w : World} {K : PySem.W.Frag} {mg : Str → Option Value} {base : Heap}
theorem ini_BadFormat {f C : Addr} {fd : FuncData} (F : Fun K "__init__" "BadFormat.__init__" s_BadFormat___init__ f fd) (X : OwnX K C) (no : PySem.W.findIn K (.ref C) "part" = some none) : FnOk P w K mg base CX0 1 f fd ["self", "part"] (spKeep C "part") := by
  refine F.ok sc_BadFormat___init__ (fun vs H Q E h => ?_) (fun cdv A outer s H vs Q E hr h => ?_)
  · obtain ⟨a, v, rfl, _⟩ := h
    rfl
  · obtain ⟨a, v, rfl, ea, q⟩ := h
    have nd := sc_BadFormat___init__.nd
    exact ⟨_, (pss_one (ps_one (pv 0) (pv 1))), _, rfl, _, rfl, a, C, rfl, X, no, ea, q⟩
theorem ini_BadSheet {f C : Addr} {fd : FuncData} (F : Fun K "__init__" "BadSheet.__init__" s_BadSheet___init__ f fd) (X : OwnX K C) (no : PySem.W.findIn K (.ref C) "part" = some none) : FnOk P w K mg base CX0 1 f fd ["self", "part"] (spKeep C "part") := by
  refine F.ok sc_BadSheet___init__ (fun vs H Q E h => ?_) (fun cdv A outer s H vs Q E hr h => ?_)
  · obtain ⟨a, v, rfl, _⟩ := h
    rfl
  · obtain ⟨a, v, rfl, ea, q⟩ := h
    have nd := sc_BadSheet___init__.nd
    exact ⟨_, (pss_one (ps_one (pv 0) (pv 1))), _, rfl, _, rfl, a, C, rfl, X, no, ea, q⟩
theorem ini_BadText {f C : Addr} {fd : FuncData} (F : Fun K "__init__" "BadText.__init__" s_BadText___init__ f fd) (X : OwnX K C) (no : PySem.W.findIn K (.ref C) "place" = some none) : FnOk P w K mg base CX0 1 f fd ["self", "place"] (spKeep C "place") := by
  refine F.ok sc_BadText___init__ (fun vs H Q E h => ?_) (fun cdv A outer s H vs Q E hr h => ?_)
  · obtain ⟨a, v, rfl, _⟩ := h
    rfl
  · obtain ⟨a, v, rfl, ea, q⟩ := h
    have nd := sc_BadText___init__.nd
    exact ⟨_, (pss_one (ps_one (pv 0) (pv 1))), _, rfl, _, rfl, a, C, rfl, X, no, ea, q⟩
theorem ini_BadLetters {f C : Addr} {fd : FuncData} (F : Fun K "__init__" "BadLetters.__init__" s_BadLetters___init__ f fd) (X : OwnX K C) (no : PySem.W.findIn K (.ref C) "pairs" = some none) : FnOk P w K mg base CX0 1 f fd ["self", "pairs"] (spKeep C "pairs") := by
  refine F.ok sc_BadLetters___init__ (fun vs H Q E h => ?_) (fun cdv A outer s H vs Q E hr h => ?_)
  · obtain ⟨a, v, rfl, _⟩ := h
    rfl
  · obtain ⟨a, v, rfl, ea, q⟩ := h
    have nd := sc_BadLetters___init__.nd
    exact ⟨_, (pss_one (ps_one (pv 0) (pv 1))), _, rfl, _, rfl, a, C, rfl, X, no, ea, q⟩
theorem ini_NotIn {f C : Addr} {fd : FuncData} (F : Fun K "__init__" "NotIn.__init__" s_NotIn___init__ f fd) (X : OwnX K C) (no : PySem.W.findIn K (.ref C) "word" = some none) : FnOk P w K mg base CX0 1 f fd ["self", "word"] (spKeep C "word") := by
  refine F.ok sc_NotIn___init__ (fun vs H Q E h => ?_) (fun cdv A outer s H vs Q E hr h => ?_)
  · obtain ⟨a, v, rfl, _⟩ := h
    rfl
  · obtain ⟨a, v, rfl, ea, q⟩ := h
    have nd := sc_NotIn___init__.nd
    exact ⟨_, (pss_one (ps_one (pv 0) (pv 1))), _, rfl, _, rfl, a, C, rfl, X, no, ea, q⟩
theorem ini_TooLong {f C : Addr} {fd : FuncData} (F : Fun K "__init__" "TooLong.__init__" s_TooLong___init__ f fd) (X : OwnX K C) (no : PySem.W.findIn K (.ref C) "most" = some none) : FnOk P w K mg base CX0 1 f fd ["self", "most"] (spKeep C "most") := by
  refine F.ok sc_TooLong___init__ (fun vs H Q E h => ?_) (fun cdv A outer s H vs Q E hr h => ?_)
  · obtain ⟨a, v, rfl, _⟩ := h
    rfl
  · obtain ⟨a, v, rfl, ea, q⟩ := h
    have nd := sc_TooLong___init__.nd
    exact ⟨_, (pss_one (ps_one (pv 0) (pv 1))), _, rfl, _, rfl, a, C, rfl, X, no, ea, q⟩
theorem ini_UnlikeRows {f C : Addr} {fd : FuncData} (F : Fun K "__init__" "UnlikeRows.__init__" s_UnlikeRows___init__ f fd) (X : OwnX K C) (no : PySem.W.findIn K (.ref C) "length" = some none) : FnOk P w K mg base CX0 1 f fd ["self", "length"] (spKeep C "length") := by
  refine F.ok sc_UnlikeRows___init__ (fun vs H Q E h => ?_) (fun cdv A outer s H vs Q E hr h => ?_)
  · obtain ⟨a, v, rfl, _⟩ := h
    rfl
  · obtain ⟨a, v, rfl, ea, q⟩ := h
    have nd := sc_UnlikeRows___init__.nd
    exact ⟨_, (pss_one (ps_one (pv 0) (pv 1))), _, rfl, _, rfl, a, C, rfl, X, no, ea, q⟩
theorem ini_NoWords {f C : Addr} {fd : FuncData} (F : Fun K "__init__" "NoWords.__init__" s_NoWords___init__ f fd) (X : OwnX K C) (no : PySem.W.findIn K (.ref C) "length" = some none) : FnOk P w K mg base CX0 1 f fd ["self", "length"] (spKeep C "length") := by
  refine F.ok sc_NoWords___init__ (fun vs H Q E h => ?_) (fun cdv A outer s H vs Q E hr h => ?_)
  · obtain ⟨a, v, rfl, _⟩ := h
    rfl
  · obtain ⟨a, v, rfl, ea, q⟩ := h
    have nd := sc_NoWords___init__.nd
    exact ⟨_, (pss_one (ps_one (pv 0) (pv 1))), _, rfl, _, rfl, a, C, rfl, X, no, ea, q⟩
theorem ini_Endless {f C : Addr} {fd : FuncData} (F : Fun K "__init__" "Endless.__init__" s_Endless___init__ f fd) (X : OwnX K C) (no : PySem.W.findIn K (.ref C) "paper" = some none) : FnOk P w K mg base CX0 1 f fd ["self", "paper"] (spKeep C "paper") := by
  refine F.ok sc_Endless___init__ (fun vs H Q E h => ?_) (fun cdv A outer s H vs Q E hr h => ?_)
  · obtain ⟨a, v, rfl, _⟩ := h
    rfl
  · obtain ⟨a, v, rfl, ea, q⟩ := h
    have nd := sc_Endless___init__.nd
    exact ⟨_, (pss_one (ps_one (pv 0) (pv 1))), _, rfl, _, rfl, a, C, rfl, X, no, ea, q⟩
theorem ini_Uneven {f C : Addr} {fd : FuncData} (F : Fun K "__init__" "Uneven.__init__" s_Uneven___init__ f fd) (X : OwnX K C) (no : PySem.W.findIn K (.ref C) "shares" = some none) : FnOk P w K mg base CX0 1 f fd ["self", "shares"] (spKeep C "shares") := by
  refine F.ok sc_Uneven___init__ (fun vs H Q E h => ?_) (fun cdv A outer s H vs Q E hr h => ?_)
  · obtain ⟨a, v, rfl, _⟩ := h
    rfl
  · obtain ⟨a, v, rfl, ea, q⟩ := h
    have nd := sc_Uneven___init__.nd
    exact ⟨_, (pss_one (ps_one (pv 0) (pv 1))), _, rfl, _, rfl, a, C, rfl, X, no, ea, q⟩
theorem ini_BadCode {f C : Addr} {fd : FuncData} (F : Fun K "__init__" "BadCode.__init__" s_BadCode___init__ f fd) (X : OwnX K C) (no : PySem.W.findIn K (.ref C) "part" = some none) : FnOk P w K mg base CX0 1 f fd ["self", "part"] (spKeep C "part") := by
  refine F.ok sc_BadCode___init__ (fun vs H Q E h => ?_) (fun cdv A outer s H vs Q E hr h => ?_)
  · obtain ⟨a, v, rfl, _⟩ := h
    rfl
  · obtain ⟨a, v, rfl, ea, q⟩ := h
    have nd := sc_BadCode___init__.nd
    exact ⟨_, (pss_one (ps_one (pv 0) (pv 1))), _, rfl, _, rfl, a, C, rfl, X, no, ea, q⟩
theorem ini_TwoWays {f C : Addr} {fd : FuncData} (F : Fun K "__init__" "TwoWays.__init__" s_TwoWays___init__ f fd) (X : OwnX K C) (no : PySem.W.findIn K (.ref C) "paper" = some none) : FnOk P w K mg base CX0 1 f fd ["self", "paper"] (spKeep C "paper") := by
  refine F.ok sc_TwoWays___init__ (fun vs H Q E h => ?_) (fun cdv A outer s H vs Q E hr h => ?_)
  · obtain ⟨a, v, rfl, _⟩ := h
    rfl
  · obtain ⟨a, v, rfl, ea, q⟩ := h
    have nd := sc_TwoWays___init__.nd
    exact ⟨_, (pss_one (ps_one (pv 0) (pv 1))), _, rfl, _, rfl, a, C, rfl, X, no, ea, q⟩
theorem ini_NoMessage {f C : Addr} {fd : FuncData} (F : Fun K "__init__" "NoMessage.__init__" s_NoMessage___init__ f fd) (X : OwnX K C) (no : PySem.W.findIn K (.ref C) "place" = some none) : FnOk P w K mg base CX0 1 f fd ["self", "place"] (spKeep C "place") := by
  refine F.ok sc_NoMessage___init__ (fun vs H Q E h => ?_) (fun cdv A outer s H vs Q E hr h => ?_)
  · obtain ⟨a, v, rfl, _⟩ := h
    rfl
  · obtain ⟨a, v, rfl, ea, q⟩ := h
    have nd := sc_NoMessage___init__.nd
    exact ⟨_, (pss_one (ps_one (pv 0) (pv 1))), _, rfl, _, rfl, a, C, rfl, X, no, ea, q⟩
theorem ini_TooMuch {f C : Addr} {fd : FuncData} (F : Fun K "__init__" "TooMuch.__init__" s_TooMuch___init__ f fd) (X : OwnX K C) (no : PySem.W.findIn K (.ref C) "share" = some none) : FnOk P w K mg base CX0 1 f fd ["self", "share"] (spKeep C "share") := by
  refine F.ok sc_TooMuch___init__ (fun vs H Q E h => ?_) (fun cdv A outer s H vs Q E hr h => ?_)
  · obtain ⟨a, v, rfl, _⟩ := h
    rfl
  · obtain ⟨a, v, rfl, ea, q⟩ := h
    have nd := sc_TooMuch___init__.nd
    exact ⟨_, (pss_one (ps_one (pv 0) (pv 1))), _, rfl, _, rfl, a, C, rfl, X, no, ea, q⟩
theorem ini_BadLot {f C : Addr} {fd : FuncData} (F : Fun K "__init__" "BadLot.__init__" s_BadLot___init__ f fd) (X : OwnX K C) (no : PySem.W.findIn K (.ref C) "part" = some none) : FnOk P w K mg base CX0 1 f fd ["self", "part"] (spKeep C "part") := by
  refine F.ok sc_BadLot___init__ (fun vs H Q E h => ?_) (fun cdv A outer s H vs Q E hr h => ?_)
  · obtain ⟨a, v, rfl, _⟩ := h
    rfl
  · obtain ⟨a, v, rfl, ea, q⟩ := h
    have nd := sc_BadLot___init__.nd
    exact ⟨_, (pss_one (ps_one (pv 0) (pv 1))), _, rfl, _, rfl, a, C, rfl, X, no, ea, q⟩
theorem ini_TooFar {f C : Addr} {fd : FuncData} (F : Fun K "__init__" "TooFar.__init__" s_TooFar___init__ f fd) (X : OwnX K C) (no : PySem.W.findIn K (.ref C) "most" = some none) : FnOk P w K mg base CX0 1 f fd ["self", "most"] (spKeep C "most") := by
  refine F.ok sc_TooFar___init__ (fun vs H Q E h => ?_) (fun cdv A outer s H vs Q E hr h => ?_)
  · obtain ⟨a, v, rfl, _⟩ := h
    rfl
  · obtain ⟨a, v, rfl, ea, q⟩ := h
    have nd := sc_TooFar___init__.nd
    exact ⟨_, (pss_one (ps_one (pv 0) (pv 1))), _, rfl, _, rfl, a, C, rfl, X, no, ea, q⟩
theorem ini_TooMany {f C : Addr} {fd : FuncData} (F : Fun K "__init__" "TooMany.__init__" s_TooMany___init__ f fd) (X : OwnX K C) (no : PySem.W.findIn K (.ref C) "most" = some none) : FnOk P w K mg base CX0 1 f fd ["self", "most"] (spKeep C "most") := by
  refine F.ok sc_TooMany___init__ (fun vs H Q E h => ?_) (fun cdv A outer s H vs Q E hr h => ?_)
  · obtain ⟨a, v, rfl, _⟩ := h
    rfl
  · obtain ⟨a, v, rfl, ea, q⟩ := h
    have nd := sc_TooMany___init__.nd
    exact ⟨_, (pss_one (ps_one (pv 0) (pv 1))), _, rfl, _, rfl, a, C, rfl, X, no, ea, q⟩
theorem ini_Doubles {f C : Addr} {fd : FuncData} (F : Fun K "__init__" "Doubles.__init__" s_Doubles___init__ f fd) (X : OwnX K C) (no : PySem.W.findIn K (.ref C) "paper" = some none) : FnOk P w K mg base CX0 1 f fd ["self", "paper"] (spKeep C "paper") := by
  refine F.ok sc_Doubles___init__ (fun vs H Q E h => ?_) (fun cdv A outer s H vs Q E hr h => ?_)
  · obtain ⟨a, v, rfl, _⟩ := h
    rfl
  · obtain ⟨a, v, rfl, ea, q⟩ := h
    have nd := sc_Doubles___init__.nd
    exact ⟨_, (pss_one (ps_one (pv 0) (pv 1))), _, rfl, _, rfl, a, C, rfl, X, no, ea, q⟩
theorem ini_NotThin {f C : Addr} {fd : FuncData} (F : Fun K "__init__" "NotThin.__init__" s_NotThin___init__ f fd) (X : OwnX K C) (no : PySem.W.findIn K (.ref C) "paper" = some none) : FnOk P w K mg base CX0 1 f fd ["self", "paper"] (spKeep C "paper") := by
  refine F.ok sc_NotThin___init__ (fun vs H Q E h => ?_) (fun cdv A outer s H vs Q E hr h => ?_)
  · obtain ⟨a, v, rfl, _⟩ := h
    rfl
  · obtain ⟨a, v, rfl, ea, q⟩ := h
    have nd := sc_NotThin___init__.nd
    exact ⟨_, (pss_one (ps_one (pv 0) (pv 1))), _, rfl, _, rfl, a, C, rfl, X, no, ea, q⟩
theorem ini_BadName {f C : Addr} {fd : FuncData} (F : Fun K "__init__" "BadName.__init__" s_BadName___init__ f fd) (X : OwnX K C) (no : PySem.W.findIn K (.ref C) "name" = some none) : FnOk P w K mg base CX0 1 f fd ["self", "name"] (spKeep C "name") := by
  refine F.ok sc_BadName___init__ (fun vs H Q E h => ?_) (fun cdv A outer s H vs Q E hr h => ?_)
  · obtain ⟨a, v, rfl, _⟩ := h
    rfl
  · obtain ⟨a, v, rfl, ea, q⟩ := h
    have nd := sc_BadName___init__.nd
    exact ⟨_, (pss_one (ps_one (pv 0) (pv 1))), _, rfl, _, rfl, a, C, rfl, X, no, ea, q⟩
theorem ini_NameTaken {f C : Addr} {fd : FuncData} (F : Fun K "__init__" "NameTaken.__init__" s_NameTaken___init__ f fd) (X : OwnX K C) (no : PySem.W.findIn K (.ref C) "name" = some none) : FnOk P w K mg base CX0 1 f fd ["self", "name"] (spKeep C "name") := by
  refine F.ok sc_NameTaken___init__ (fun vs H Q E h => ?_) (fun cdv A outer s H vs Q E hr h => ?_)
  · obtain ⟨a, v, rfl, _⟩ := h
    rfl
  · obtain ⟨a, v, rfl, ea, q⟩ := h
    have nd := sc_NameTaken___init__.nd
    exact ⟨_, (pss_one (ps_one (pv 0) (pv 1))), _, rfl, _, rfl, a, C, rfl, X, no, ea, q⟩
theorem ini_NoBook {f C : Addr} {fd : FuncData} (F : Fun K "__init__" "NoBook.__init__" s_NoBook___init__ f fd) (X : OwnX K C) (no : PySem.W.findIn K (.ref C) "name" = some none) : FnOk P w K mg base CX0 1 f fd ["self", "name"] (spKeep C "name") := by
  refine F.ok sc_NoBook___init__ (fun vs H Q E h => ?_) (fun cdv A outer s H vs Q E hr h => ?_)
  · obtain ⟨a, v, rfl, _⟩ := h
    rfl
  · obtain ⟨a, v, rfl, ea, q⟩ := h
    have nd := sc_NoBook___init__.nd
    exact ⟨_, (pss_one (ps_one (pv 0) (pv 1))), _, rfl, _, rfl, a, C, rfl, X, no, ea, q⟩
theorem ini_NoName {f C : Addr} {fd : FuncData} (F : Fun K "__init__" "NoName.__init__" s_NoName___init__ f fd) (X : OwnX K C) (no : PySem.W.findIn K (.ref C) "name" = some none) : FnOk P w K mg base CX0 1 f fd ["self", "name"] (spKeep C "name") := by
  refine F.ok sc_NoName___init__ (fun vs H Q E h => ?_) (fun cdv A outer s H vs Q E hr h => ?_)
  · obtain ⟨a, v, rfl, _⟩ := h
    rfl
  · obtain ⟨a, v, rfl, ea, q⟩ := h
    have nd := sc_NoName___init__.nd
    exact ⟨_, (pss_one (ps_one (pv 0) (pv 1))), _, rfl, _, rfl, a, C, rfl, X, no, ea, q⟩
theorem ini_NoWordLeft {f C : Addr} {fd : FuncData} (F : Fun K "__init__" "NoWordLeft.__init__" s_NoWordLeft___init__ f fd) (X : OwnX K C) (no : PySem.W.findIn K (.ref C) "name" = some none) : FnOk P w K mg base CX0 1 f fd ["self", "name"] (spKeep C "name") := by
  refine F.ok sc_NoWordLeft___init__ (fun vs H Q E h => ?_) (fun cdv A outer s H vs Q E hr h => ?_)
  · obtain ⟨a, v, rfl, _⟩ := h
    rfl
  · obtain ⟨a, v, rfl, ea, q⟩ := h
    have nd := sc_NoWordLeft___init__.nd
    exact ⟨_, (pss_one (ps_one (pv 0) (pv 1))), _, rfl, _, rfl, a, C, rfl, X, no, ea, q⟩
theorem ini_IssuedBefore {f C : Addr} {fd : FuncData} (F : Fun K "__init__" "IssuedBefore.__init__" s_IssuedBefore___init__ f fd) (X : OwnX K C) (no : PySem.W.findIn K (.ref C) "word" = some none) : FnOk P w K mg base CX0 1 f fd ["self", "word"] (spKeep C "word") := by
  refine F.ok sc_IssuedBefore___init__ (fun vs H Q E h => ?_) (fun cdv A outer s H vs Q E hr h => ?_)
  · obtain ⟨a, v, rfl, _⟩ := h
    rfl
  · obtain ⟨a, v, rfl, ea, q⟩ := h
    have nd := sc_IssuedBefore___init__.nd
    exact ⟨_, (pss_one (ps_one (pv 0) (pv 1))), _, rfl, _, rfl, a, C, rfl, X, no, ea, q⟩
theorem ini_NotDrawn {f C : Addr} {fd : FuncData} (F : Fun K "__init__" "NotDrawn.__init__" s_NotDrawn___init__ f fd) (X : OwnX K C) (no : PySem.W.findIn K (.ref C) "tosses" = some none) : FnOk P w K mg base CX0 1 f fd ["self", "tosses"] (spKeep C "tosses") := by
  refine F.ok sc_NotDrawn___init__ (fun vs H Q E h => ?_) (fun cdv A outer s H vs Q E hr h => ?_)
  · obtain ⟨a, v, rfl, _⟩ := h
    rfl
  · obtain ⟨a, v, rfl, ea, q⟩ := h
    have nd := sc_NotDrawn___init__.nd
    exact ⟨_, (pss_one (ps_one (pv 0) (pv 1))), _, rfl, _, rfl, a, C, rfl, X, no, ea, q⟩
theorem ini_NotInForce {f C : Addr} {fd : FuncData} (F : Fun K "__init__" "NotInForce.__init__" s_NotInForce___init__ f fd) (X : OwnX K C) (no : PySem.W.findIn K (.ref C) "word" = some none) : FnOk P w K mg base CX0 1 f fd ["self", "word"] (spKeep C "word") := by
  refine F.ok sc_NotInForce___init__ (fun vs H Q E h => ?_) (fun cdv A outer s H vs Q E hr h => ?_)
  · obtain ⟨a, v, rfl, _⟩ := h
    rfl
  · obtain ⟨a, v, rfl, ea, q⟩ := h
    have nd := sc_NotInForce___init__.nd
    exact ⟨_, (pss_one (ps_one (pv 0) (pv 1))), _, rfl, _, rfl, a, C, rfl, X, no, ea, q⟩
theorem ini_BadSign {f C : Addr} {fd : FuncData} (F : Fun K "__init__" "BadSign.__init__" s_BadSign___init__ f fd) (X : OwnX K C) (no : PySem.W.findIn K (.ref C) "sign" = some none) : FnOk P w K mg base CX0 1 f fd ["self", "sign"] (spKeep C "sign") := by
  refine F.ok sc_BadSign___init__ (fun vs H Q E h => ?_) (fun cdv A outer s H vs Q E hr h => ?_)
  · obtain ⟨a, v, rfl, _⟩ := h
    rfl
  · obtain ⟨a, v, rfl, ea, q⟩ := h
    have nd := sc_BadSign___init__.nd
    exact ⟨_, (pss_one (ps_one (pv 0) (pv 1))), _, rfl, _, rfl, a, C, rfl, X, no, ea, q⟩
theorem ini_StillInForce {f C : Addr} {fd : FuncData} (F : Fun K "__init__" "StillInForce.__init__" s_StillInForce___init__ f fd) (X : OwnX K C) (no : PySem.W.findIn K (.ref C) "word" = some none) : FnOk P w K mg base CX0 1 f fd ["self", "word"] (spKeep C "word") := by
  refine F.ok sc_StillInForce___init__ (fun vs H Q E h => ?_) (fun cdv A outer s H vs Q E hr h => ?_)
  · obtain ⟨a, v, rfl, _⟩ := h
    rfl
  · obtain ⟨a, v, rfl, ea, q⟩ := h
    have nd := sc_StillInForce___init__.nd
    exact ⟨_, (pss_one (ps_one (pv 0) (pv 1))), _, rfl, _, rfl, a, C, rfl, X, no, ea, q⟩
theorem ini_BadDeed {f C : Addr} {fd : FuncData} (F : Fun K "__init__" "BadDeed.__init__" s_BadDeed___init__ f fd) (X : OwnX K C) (no : PySem.W.findIn K (.ref C) "number" = some none) : FnOk P w K mg base CX0 1 f fd ["self", "number"] (spKeep C "number") := by
  refine F.ok sc_BadDeed___init__ (fun vs H Q E h => ?_) (fun cdv A outer s H vs Q E hr h => ?_)
  · obtain ⟨a, v, rfl, _⟩ := h
    rfl
  · obtain ⟨a, v, rfl, ea, q⟩ := h
    have nd := sc_BadDeed___init__.nd
    exact ⟨_, (pss_one (ps_one (pv 0) (pv 1))), _, rfl, _, rfl, a, C, rfl, X, no, ea, q⟩
theorem ini_HasBeginnings {f C : Addr} {fd : FuncData} (F : Fun K "__init__" "HasBeginnings.__init__" s_HasBeginnings___init__ f fd) (X : OwnX K C) (n1 : PySem.W.findIn K (.ref C) "one" = some none) (n2 : PySem.W.findIn K (.ref C) "other" = some none) : FnOk P w K mg base CX0 1 f fd ["self", "one", "other"] (spHB C) := by
  refine F.ok sc_HasBeginnings___init__ (fun vs H Q E h => ?_) (fun cdv A outer s H vs Q E hr h => ?_)
  · obtain ⟨a, v, u, rfl, _⟩ := h
    rfl
  · obtain ⟨a, v, u, rfl, ea, q⟩ := h
    have nd := sc_HasBeginnings___init__.nd
    refine ⟨_, (pss_cons (ps_one (pv 0) (pv 1))
      (pss_one (ps_two (pv 0) (pv 2)))), _, rfl, _, rfl, a, C, rfl, X, n1, ea, fun dx ndx ne => ?_⟩
    exact ⟨_, rfl, _, rfl, a, C, dx, _, rfl, X, n2, upd_same, (upd_ne ne).trans upd_same, (by show 1 ≤ 900; decide), q dx ndx ne⟩
end
end SG

/-! The rows of exceptions. -/
namespace SG
open PySem PySem.Spec PyProof.Rows L2 TL
local macro_rules
  | `(tactic| clean_wf) => `(tactic| repeat (first | refine ⟨_, rfl, ?_⟩ | refine ⟨rfl, ?_⟩ | refine ⟨_, _, rfl, ?_⟩ | refine ⟨_, _, rfl, rfl, ?_⟩ | refine ⟨_, _, _, rfl, ?_⟩ | refine ⟨_, _, _, _, rfl, ?_⟩))
local macro_rules
  | `(tactic| exists $u:ident, $n:ident, $H:ident, $q:ident, $e:ident) => `(tactic| (refine ⟨by first | exact Nat.zero_le _ | assumption | (simp only [List.length_cons, List.length_nil]; decide), fun $u $n => ?_⟩; generalize hh : upd _ $u _ = $H; obtain ⟨$q, $e⟩ := mkq $n hh; clear hh))
local macro_rules
  | `(tactic| simp_wf) => `(tactic| first | assumption | exact upd_same | (refine (by assumption : Same _ _) _ _ ?_; simp_wf) | (refine (by assumption : Kept _ _ _ _) _ _ ?_ (by assumption) (by assumption); simp_wf))
local macro_rules
  | `(tactic| decreasing_trivial) => `(tactic| first | assumption | exact .inl (.inl (by assumption)) | (refine sameT (by assumption) ?_; decreasing_trivial))
local macro_rules
  | `(tactic| array_get_dec) => `(tactic| first | assumption | (refine CdAt.same (by assumption) ?_; array_get_dec))
section
variable {P : Program} {w : World} {K : PySem.W.Frag} {mg : Str → Option Value} {base : Heap}
/-- a row: two exceptions of the i-th class, what they hold -/
def RowX (A : Nat → Addr) (H : Hp) (va vb : V) (i : Nat) (r : V) : Prop := ∃ t x y dx dy : Addr, r = .ref t ∧ H t = some (.tup [.ref x, .ref y, va, vb]) ∧ H x = some (exo x (A i) (some dx)) ∧ H dx = some (exd dx [(cA i, va)]) ∧ H y = some (exo y (A i) (some dy)) ∧ H dy = some (exd dy [(cA i, vb)])
theorem RowX.to {A : Nat → Addr} {H H2 : Hp} {va vb : V} {i : Nat} {r : V} (h : RowX A H va vb i r) (s : Same H H2) : RowX A H2 va vb i r := by
  obtain ⟨t, x, y, dx, dy, e, h1, h2, h3, h4, h5⟩ := h
  exact ⟨t, x, y, dx, dy, e, s _ _ h1, s _ _ h2, s _ _ h3, s _ _ h4, s _ _ h5⟩
/-- rows of the classes from i on -/
def RowsX (A : Nat → Addr) (H : Hp) (va vb : V) : Nat → List V → Prop
  | _, [] => True
  | i, r :: rs => RowX A H va vb i r ∧ RowsX A H va vb (i + 1) rs
theorem RowsX.to {A : Nat → Addr} {H H2 : Hp} {va vb : V} (s : Same H H2) : ∀ {i : Nat} {rs : List V}, RowsX A H va vb i rs → RowsX A H2 va vb i rs
  | _, [], _ => True.intro
  | _, _ :: _, h => ⟨h.1.to s, h.2.to s⟩
theorem RowsX.add {A : Nat → Addr} {H : Hp} {va vb : V} : ∀ {i : Nat} {rs ss : List V}, RowsX A H va vb i rs → RowsX A H va vb (i + rs.length) ss → RowsX A H va vb i (rs ++ ss)
  | _, [], _, _, h => h
  | i, _ :: rs, _, h, g => ⟨h.1, h.2.add (by rw [List.length_cons, show i + (rs.length + 1) = i + 1 + rs.length by omega] at g; exact g)⟩
theorem RowsX.get {A : Nat → Addr} {H : Hp} {va vb : V} : ∀ {i : Nat} {rs : List V} {k : Nat} {r : V}, RowsX A H va vb i rs → rs[k]? = some r → RowX A H va vb (i + k) r
  | _, [], _, _, _, h => by cases h
  | _, _ :: _, 0, _, h, e => by
    cases e
    exact h.1
  | i, _ :: rs, k + 1, r, h, e => by
    have := h.2.get (k := k) (r := r) (by simpa using e)
    rw [show i + (k + 1) = i + 1 + k by omega]
    exact this
theorem RowX.kept {A : Nat → Addr} {H H2 : Hp} {va vb : V} {i : Nat} {r : V} {p : Addr} {l : List V} (h : RowX A H va vb i r) (hp : H p = some (.lst l)) (s : ∀ b o, b ≠ p → H b = some o → H2 b = some o) : RowX A H2 va vb i r := by
  obtain ⟨t, x, y, dx, dy, e, h1, h2, h3, h4, h5⟩ := h
  exact ⟨t, x, y, dx, dy, e, s _ _ (ne_of h1 hp nofun) h1, s _ _ (ne_of h2 hp nofun) h2, s _ _ (ne_of h3 hp nofun) h3, s _ _ (ne_of h4 hp nofun) h4, s _ _ (ne_of h5 hp nofun) h5⟩
theorem RowsX.kept {A : Nat → Addr} {H H2 : Hp} {va vb : V} {p : Addr} {l : List V} (hp : H p = some (.lst l)) (s : ∀ b o, b ≠ p → H b = some o → H2 b = some o) : ∀ {i : Nat} {rs : List V}, RowsX A H va vb i rs → RowsX A H2 va vb i rs
  | _, [], _ => True.intro
  | _, _ :: _, h => ⟨h.1.kept hp s, h.2.kept hp s⟩
theorem row_step {K : PySem.W.Frag} {A : Nat → Addr} {i j : Nat} {f : Str} {va vb : V} {p : Addr} {o3 o4 : Option V} {rs : List V} {H H0 : Hp} {rest : TS} {D : Ends} (X : XC K (A i)) (no : PySem.W.findIn K (.ref (A i)) (cA i) = some none) (ef : cA i = f)
    (s0 : Same H H0) (np : H p = none) (hp : H0 p = some (.lst rs)) (rows : RowsX A H0 va vb j rs) (ei : i = j + rs.length) (few : rs.length ≤ 20)
    (next : ∀ (x y : Addr) (H2 : Hp) (r : V), Same H H2 → H2 p = some (.lst (rs ++ [r])) → RowsX A H2 va vb j (rs ++ [r]) → rest D [some va, some vb, some (.ref p), some (.ref x), some (.ref y)] H2) :
    tSeq (tPar 3 4 (tCons (tMkX (A i) (spKeep (A i) (cA i)) (tCons (tVar 0) tNil)) (tCons (tMkXK (A i) (spKeep (A i) (cA i)) kwSelf1 (tCons (tVar 1) tNil)) tNil)))
      (tSeq (tDrop (tBM K "list" rAppend (tVar 2) (tCons (tTup (tCons (tVar 3) (tCons (tVar 4) (tCons (tXv K f (tVar 3)) (tCons (tXv K f (tVar 4)) tNil))))) tNil))) rest) D [some va, some vb, some (.ref p), o3, o4] H0 := by
  subst ef
  refine ⟨_, rfl, by show 1 ≤ 1000; decide, fun x nx => ⟨x, va, rfl, upd_same, fun dx ndx hne => ⟨rfl, ?_⟩⟩⟩
  obtain ⟨s1, hx, hdx⟩ := made_x (fs := [(cA i, va)]) nx ndx hne rfl
  generalize upd (upd (upd H0 x (exo x (A i) none)) dx (exd dx [(cA i, va)])) x (exo x (A i) (some dx)) = H1 at s1 hx hdx ⊢
  refine ⟨_, rfl, fun y ny => ⟨y, vb, rfl, upd_same, fun dy ndy hny => ⟨rfl, ?_⟩⟩⟩
  obtain ⟨s2, hy, hdy⟩ := made_x (fs := [(cA i, vb)]) ny ndy hny rfl
  generalize upd (upd (upd H1 y (exo y (A i) none)) dy (exd dy [(cA i, vb)])) y (exo y (A i) (some dy)) = H2 at s2 hy hdy ⊢
  have hx2 := s2 _ _ hx
  have hdx2 := s2 _ _ hdx
  have s02 := s1.trans s2
  clear s1 s2 nx ndx ny ndy hx hdx
  refine ⟨_, _, rfl, ?_⟩
  have hp2 := s02 _ _ hp
  refine ⟨_, rfl, .inl ⟨rfl, _, SqL.of hp2⟩, ?_⟩
  refine ⟨_, rfl, _, rfl, _, rfl, x, A i, dx, _, va, rfl, X.xf, no, hx2, hdx2, by simp [List.lookup], ?_⟩
  refine ⟨_, rfl, y, A i, dy, _, vb, rfl, X.xf, no, hy, hdy, by simp [List.lookup], ?_⟩
  refine ⟨by show 4 ≤ sizeLine; decide, fun t nt => ?_⟩
  have s3 := same_new (o := .tup [V.ref x, V.ref y, va, vb]) nt
  have ht : upd H2 t (.tup [V.ref x, V.ref y, va, vb]) t = some (.tup [V.ref x, V.ref y, va, vb]) := upd_same
  have hp3 := s3 _ _ hp2
  have rows3 := (rows.to s02).to s3
  have row : RowX A (upd H2 t (.tup [V.ref x, V.ref y, va, vb])) va vb i (.ref t) := ⟨t, x, y, dx, dy, rfl, ht, s3 _ _ hx2, s3 _ _ hdx2, s3 _ _ hy, s3 _ _ hdy⟩
  have s03 := s0.trans (s02.trans s3)
  refine ⟨p, rs, .ref t, rfl, rfl, hp3, small1000 (by omega), ?_⟩
  generalize upd H2 t (.tup [V.ref x, V.ref y, va, vb]) = H3 at hp3 rows3 row s03 ⊢
  have k : ∀ b o, b ≠ p → H3 b = some o → upd H3 p (.lst (rs ++ [.ref t])) b = some o := fun b o n e => by rw [upd_ne n]; exact e
  refine next x y _ (.ref t) (fun b o e => k _ _ (ne_of_none e np) (s03 _ _ e)) upd_same (RowsX.add (rows3.kept hp3 k) ?_)
  rw [← ei]
  exact ⟨row.kept hp3 k, True.intro⟩
def spRows (A : Nat → Addr) (i : Nat) : Sp := fun vs H Q _ => ∃ va vb : V, vs = [va, vb] ∧ ∀ (p : Addr) (rs : List V) (H2 : Hp), Same H H2 → H p = none → H2 p = some (.lst rs) → rs.length = 10 → RowsX A H2 va vb i rs → Q (.ref p) H2
theorem ok_rows_one {A I : Nat → Addr} {D : Nat → FuncData} {S : Addr} {f : Addr} {fd : FuncData} (U : Kit P w K mg base A I D S) (F : Fun K "_law_errors_one" "_law_errors_one" s__law_errors_one f fd) : GFn P w K mg base CX0 3 f fd ["_law_a", "_law_b"] (spRows A 0) := by
  refine gfun_ok F sc__law_errors_one (fun vs H Q E h => ?_) (fun cdv B outer s H vs Q E hgu hr h => ?_)
  · obtain ⟨va, vb, rfl, _⟩ := h
    rfl
  · obtain ⟨va, vb, rfl, q⟩ := h
    have nd := sc__law_errors_one.nd
    refine ⟨_, (pss_cons (ps_set (i := 2) nd rfl (Or.inl rfl) (pe_lst pa_nil))
      (pss_cons (ps_par (i := 3) (j := 4) rfl nd rfl rfl (by decide) rfl rfl (pa_cons (pe_mkX (U.own 0 (by decide)) (U.i 0 (by decide)) (U.t 0 (by decide)) (U.G 0 (by decide)) (hr.mono (by decide)) (by rfl) (U.m 0 (by decide)) (U.b 0 (by decide)) (pa_cons (pv 0) pa_nil)) (pa_cons (pe_mkXK (U.own 0 (by decide)) (U.i 0 (by decide)) (U.t 0 (by decide)) (U.G 0 (by decide)) (hr.mono (by decide)) (by rfl) (U.m 0 (by decide)) (U.kb 0 (by decide)) (pk_cons (pv 1) pk_nil)) pa_nil)) (by rfl))
      (pss_cons (ps_expr (pe_bm PySem.F.plainAttrs_list PySem.F.slot_list_append PySem.F.type_list_append mt_append (pv 2) (pa_cons (pe_tup (pa_cons (pv 3) (pa_cons (pv 4) (pa_cons (pe_xv (pv 3)) (pa_cons (pe_xv (pv 4)) pa_nil))))) pa_nil)))
      (pss_cons (ps_par (i := 3) (j := 4) rfl nd rfl rfl (by decide) rfl rfl (pa_cons (pe_mkX (U.own 1 (by decide)) (U.i 1 (by decide)) (U.t 1 (by decide)) (U.G 1 (by decide)) (hr.mono (by decide)) (by rfl) (U.m 1 (by decide)) (U.b 1 (by decide)) (pa_cons (pv 0) pa_nil)) (pa_cons (pe_mkXK (U.own 1 (by decide)) (U.i 1 (by decide)) (U.t 1 (by decide)) (U.G 1 (by decide)) (hr.mono (by decide)) (by rfl) (U.m 1 (by decide)) (U.kb 1 (by decide)) (pk_cons (pv 1) pk_nil)) pa_nil)) (by rfl))
      (pss_cons (ps_expr (pe_bm PySem.F.plainAttrs_list PySem.F.slot_list_append PySem.F.type_list_append mt_append (pv 2) (pa_cons (pe_tup (pa_cons (pv 3) (pa_cons (pv 4) (pa_cons (pe_xv (pv 3)) (pa_cons (pe_xv (pv 4)) pa_nil))))) pa_nil)))
      (pss_cons (ps_par (i := 3) (j := 4) rfl nd rfl rfl (by decide) rfl rfl (pa_cons (pe_mkX (U.own 2 (by decide)) (U.i 2 (by decide)) (U.t 2 (by decide)) (U.G 2 (by decide)) (hr.mono (by decide)) (by rfl) (U.m 2 (by decide)) (U.b 2 (by decide)) (pa_cons (pv 0) pa_nil)) (pa_cons (pe_mkXK (U.own 2 (by decide)) (U.i 2 (by decide)) (U.t 2 (by decide)) (U.G 2 (by decide)) (hr.mono (by decide)) (by rfl) (U.m 2 (by decide)) (U.kb 2 (by decide)) (pk_cons (pv 1) pk_nil)) pa_nil)) (by rfl))
      (pss_cons (ps_expr (pe_bm PySem.F.plainAttrs_list PySem.F.slot_list_append PySem.F.type_list_append mt_append (pv 2) (pa_cons (pe_tup (pa_cons (pv 3) (pa_cons (pv 4) (pa_cons (pe_xv (pv 3)) (pa_cons (pe_xv (pv 4)) pa_nil))))) pa_nil)))
      (pss_cons (ps_par (i := 3) (j := 4) rfl nd rfl rfl (by decide) rfl rfl (pa_cons (pe_mkX (U.own 3 (by decide)) (U.i 3 (by decide)) (U.t 3 (by decide)) (U.G 3 (by decide)) (hr.mono (by decide)) (by rfl) (U.m 3 (by decide)) (U.b 3 (by decide)) (pa_cons (pv 0) pa_nil)) (pa_cons (pe_mkXK (U.own 3 (by decide)) (U.i 3 (by decide)) (U.t 3 (by decide)) (U.G 3 (by decide)) (hr.mono (by decide)) (by rfl) (U.m 3 (by decide)) (U.kb 3 (by decide)) (pk_cons (pv 1) pk_nil)) pa_nil)) (by rfl))
      (pss_cons (ps_expr (pe_bm PySem.F.plainAttrs_list PySem.F.slot_list_append PySem.F.type_list_append mt_append (pv 2) (pa_cons (pe_tup (pa_cons (pv 3) (pa_cons (pv 4) (pa_cons (pe_xv (pv 3)) (pa_cons (pe_xv (pv 4)) pa_nil))))) pa_nil)))
      (pss_cons (ps_par (i := 3) (j := 4) rfl nd rfl rfl (by decide) rfl rfl (pa_cons (pe_mkX (U.own 4 (by decide)) (U.i 4 (by decide)) (U.t 4 (by decide)) (U.G 4 (by decide)) (hr.mono (by decide)) (by rfl) (U.m 4 (by decide)) (U.b 4 (by decide)) (pa_cons (pv 0) pa_nil)) (pa_cons (pe_mkXK (U.own 4 (by decide)) (U.i 4 (by decide)) (U.t 4 (by decide)) (U.G 4 (by decide)) (hr.mono (by decide)) (by rfl) (U.m 4 (by decide)) (U.kb 4 (by decide)) (pk_cons (pv 1) pk_nil)) pa_nil)) (by rfl))
      (pss_cons (ps_expr (pe_bm PySem.F.plainAttrs_list PySem.F.slot_list_append PySem.F.type_list_append mt_append (pv 2) (pa_cons (pe_tup (pa_cons (pv 3) (pa_cons (pv 4) (pa_cons (pe_xv (pv 3)) (pa_cons (pe_xv (pv 4)) pa_nil))))) pa_nil)))
      (pss_cons (ps_par (i := 3) (j := 4) rfl nd rfl rfl (by decide) rfl rfl (pa_cons (pe_mkX (U.own 5 (by decide)) (U.i 5 (by decide)) (U.t 5 (by decide)) (U.G 5 (by decide)) (hr.mono (by decide)) (by rfl) (U.m 5 (by decide)) (U.b 5 (by decide)) (pa_cons (pv 0) pa_nil)) (pa_cons (pe_mkXK (U.own 5 (by decide)) (U.i 5 (by decide)) (U.t 5 (by decide)) (U.G 5 (by decide)) (hr.mono (by decide)) (by rfl) (U.m 5 (by decide)) (U.kb 5 (by decide)) (pk_cons (pv 1) pk_nil)) pa_nil)) (by rfl))
      (pss_cons (ps_expr (pe_bm PySem.F.plainAttrs_list PySem.F.slot_list_append PySem.F.type_list_append mt_append (pv 2) (pa_cons (pe_tup (pa_cons (pv 3) (pa_cons (pv 4) (pa_cons (pe_xv (pv 3)) (pa_cons (pe_xv (pv 4)) pa_nil))))) pa_nil)))
      (pss_cons (ps_par (i := 3) (j := 4) rfl nd rfl rfl (by decide) rfl rfl (pa_cons (pe_mkX (U.own 6 (by decide)) (U.i 6 (by decide)) (U.t 6 (by decide)) (U.G 6 (by decide)) (hr.mono (by decide)) (by rfl) (U.m 6 (by decide)) (U.b 6 (by decide)) (pa_cons (pv 0) pa_nil)) (pa_cons (pe_mkXK (U.own 6 (by decide)) (U.i 6 (by decide)) (U.t 6 (by decide)) (U.G 6 (by decide)) (hr.mono (by decide)) (by rfl) (U.m 6 (by decide)) (U.kb 6 (by decide)) (pk_cons (pv 1) pk_nil)) pa_nil)) (by rfl))
      (pss_cons (ps_expr (pe_bm PySem.F.plainAttrs_list PySem.F.slot_list_append PySem.F.type_list_append mt_append (pv 2) (pa_cons (pe_tup (pa_cons (pv 3) (pa_cons (pv 4) (pa_cons (pe_xv (pv 3)) (pa_cons (pe_xv (pv 4)) pa_nil))))) pa_nil)))
      (pss_cons (ps_par (i := 3) (j := 4) rfl nd rfl rfl (by decide) rfl rfl (pa_cons (pe_mkX (U.own 7 (by decide)) (U.i 7 (by decide)) (U.t 7 (by decide)) (U.G 7 (by decide)) (hr.mono (by decide)) (by rfl) (U.m 7 (by decide)) (U.b 7 (by decide)) (pa_cons (pv 0) pa_nil)) (pa_cons (pe_mkXK (U.own 7 (by decide)) (U.i 7 (by decide)) (U.t 7 (by decide)) (U.G 7 (by decide)) (hr.mono (by decide)) (by rfl) (U.m 7 (by decide)) (U.kb 7 (by decide)) (pk_cons (pv 1) pk_nil)) pa_nil)) (by rfl))
      (pss_cons (ps_expr (pe_bm PySem.F.plainAttrs_list PySem.F.slot_list_append PySem.F.type_list_append mt_append (pv 2) (pa_cons (pe_tup (pa_cons (pv 3) (pa_cons (pv 4) (pa_cons (pe_xv (pv 3)) (pa_cons (pe_xv (pv 4)) pa_nil))))) pa_nil)))
      (pss_cons (ps_par (i := 3) (j := 4) rfl nd rfl rfl (by decide) rfl rfl (pa_cons (pe_mkX (U.own 8 (by decide)) (U.i 8 (by decide)) (U.t 8 (by decide)) (U.G 8 (by decide)) (hr.mono (by decide)) (by rfl) (U.m 8 (by decide)) (U.b 8 (by decide)) (pa_cons (pv 0) pa_nil)) (pa_cons (pe_mkXK (U.own 8 (by decide)) (U.i 8 (by decide)) (U.t 8 (by decide)) (U.G 8 (by decide)) (hr.mono (by decide)) (by rfl) (U.m 8 (by decide)) (U.kb 8 (by decide)) (pk_cons (pv 1) pk_nil)) pa_nil)) (by rfl))
      (pss_cons (ps_expr (pe_bm PySem.F.plainAttrs_list PySem.F.slot_list_append PySem.F.type_list_append mt_append (pv 2) (pa_cons (pe_tup (pa_cons (pv 3) (pa_cons (pv 4) (pa_cons (pe_xv (pv 3)) (pa_cons (pe_xv (pv 4)) pa_nil))))) pa_nil)))
      (pss_cons (ps_par (i := 3) (j := 4) rfl nd rfl rfl (by decide) rfl rfl (pa_cons (pe_mkX (U.own 9 (by decide)) (U.i 9 (by decide)) (U.t 9 (by decide)) (U.G 9 (by decide)) (hr.mono (by decide)) (by rfl) (U.m 9 (by decide)) (U.b 9 (by decide)) (pa_cons (pv 0) pa_nil)) (pa_cons (pe_mkXK (U.own 9 (by decide)) (U.i 9 (by decide)) (U.t 9 (by decide)) (U.G 9 (by decide)) (hr.mono (by decide)) (by rfl) (U.m 9 (by decide)) (U.kb 9 (by decide)) (pk_cons (pv 1) pk_nil)) pa_nil)) (by rfl))
      (pss_cons (ps_expr (pe_bm PySem.F.plainAttrs_list PySem.F.slot_list_append PySem.F.type_list_append mt_append (pv 2) (pa_cons (pe_tup (pa_cons (pv 3) (pa_cons (pv 4) (pa_cons (pe_xv (pv 3)) (pa_cons (pe_xv (pv 4)) pa_nil))))) pa_nil)))
      (pss_one (ps_ret (pv 2)))))))))))))))))))))))), ?_⟩
    refine ⟨Nat.zero_le _, fun p np => ?_⟩
    have s0 : Same H (upd H p (.lst [])) := same_new np
    have hp0 : upd H p (.lst []) p = some (.lst []) := upd_same
    have rows0 : RowsX A (upd H p (.lst [])) va vb 0 [] := True.intro
    generalize upd H p (.lst []) = H0 at s0 hp0 rows0 ⊢
    refine row_step (U.x 0 (by decide)) (U.no 0 (by decide)) rfl s0 np hp0 rows0 rfl (by show 0 ≤ 20; decide) fun x1 y1 H1 r1 s1 hp1 rows1 => ?_
    clear s0 hp0 rows0
    refine row_step (U.x 1 (by decide)) (U.no 1 (by decide)) rfl s1 np hp1 rows1 rfl (by show 1 ≤ 20; decide) fun x2 y2 H2 r2 s2 hp2 rows2 => ?_
    clear s1 hp1 rows1
    refine row_step (U.x 2 (by decide)) (U.no 2 (by decide)) rfl s2 np hp2 rows2 rfl (by show 2 ≤ 20; decide) fun x3 y3 H3 r3 s3 hp3 rows3 => ?_
    clear s2 hp2 rows2
    refine row_step (U.x 3 (by decide)) (U.no 3 (by decide)) rfl s3 np hp3 rows3 rfl (by show 3 ≤ 20; decide) fun x4 y4 H4 r4 s4 hp4 rows4 => ?_
    clear s3 hp3 rows3
    refine row_step (U.x 4 (by decide)) (U.no 4 (by decide)) rfl s4 np hp4 rows4 rfl (by show 4 ≤ 20; decide) fun x5 y5 H5 r5 s5 hp5 rows5 => ?_
    clear s4 hp4 rows4
    refine row_step (U.x 5 (by decide)) (U.no 5 (by decide)) rfl s5 np hp5 rows5 rfl (by show 5 ≤ 20; decide) fun x6 y6 H6 r6 s6 hp6 rows6 => ?_
    clear s5 hp5 rows5
    refine row_step (U.x 6 (by decide)) (U.no 6 (by decide)) rfl s6 np hp6 rows6 rfl (by show 6 ≤ 20; decide) fun x7 y7 H7 r7 s7 hp7 rows7 => ?_
    clear s6 hp6 rows6
    refine row_step (U.x 7 (by decide)) (U.no 7 (by decide)) rfl s7 np hp7 rows7 rfl (by show 7 ≤ 20; decide) fun x8 y8 H8 r8 s8 hp8 rows8 => ?_
    clear s7 hp7 rows7
    refine row_step (U.x 8 (by decide)) (U.no 8 (by decide)) rfl s8 np hp8 rows8 rfl (by show 8 ≤ 20; decide) fun x9 y9 H9 r9 s9 hp9 rows9 => ?_
    clear s8 hp8 rows8
    refine row_step (U.x 9 (by decide)) (U.no 9 (by decide)) rfl s9 np hp9 rows9 rfl (by show 9 ≤ 20; decide) fun x10 y10 H10 r10 s10 hp10 rows10 => ?_
    clear s9 hp9 rows9
    exact ⟨_, rfl, q p _ _ s10 np hp10 rfl rows10⟩
theorem ok_rows_two {A I : Nat → Addr} {D : Nat → FuncData} {S : Addr} {f : Addr} {fd : FuncData} (U : Kit P w K mg base A I D S) (F : Fun K "_law_errors_two" "_law_errors_two" s__law_errors_two f fd) : GFn P w K mg base CX0 3 f fd ["_law_a", "_law_b"] (spRows A 10) := by
  refine gfun_ok F sc__law_errors_two (fun vs H Q E h => ?_) (fun cdv B outer s H vs Q E hgu hr h => ?_)
  · obtain ⟨va, vb, rfl, _⟩ := h
    rfl
  · obtain ⟨va, vb, rfl, q⟩ := h
    have nd := sc__law_errors_two.nd
    refine ⟨_, (pss_cons (ps_set (i := 2) nd rfl (Or.inl rfl) (pe_lst pa_nil))
      (pss_cons (ps_par (i := 3) (j := 4) rfl nd rfl rfl (by decide) rfl rfl (pa_cons (pe_mkX (U.own 10 (by decide)) (U.i 10 (by decide)) (U.t 10 (by decide)) (U.G 10 (by decide)) (hr.mono (by decide)) (by rfl) (U.m 10 (by decide)) (U.b 10 (by decide)) (pa_cons (pv 0) pa_nil)) (pa_cons (pe_mkXK (U.own 10 (by decide)) (U.i 10 (by decide)) (U.t 10 (by decide)) (U.G 10 (by decide)) (hr.mono (by decide)) (by rfl) (U.m 10 (by decide)) (U.kb 10 (by decide)) (pk_cons (pv 1) pk_nil)) pa_nil)) (by rfl))
      (pss_cons (ps_expr (pe_bm PySem.F.plainAttrs_list PySem.F.slot_list_append PySem.F.type_list_append mt_append (pv 2) (pa_cons (pe_tup (pa_cons (pv 3) (pa_cons (pv 4) (pa_cons (pe_xv (pv 3)) (pa_cons (pe_xv (pv 4)) pa_nil))))) pa_nil)))
      (pss_cons (ps_par (i := 3) (j := 4) rfl nd rfl rfl (by decide) rfl rfl (pa_cons (pe_mkX (U.own 11 (by decide)) (U.i 11 (by decide)) (U.t 11 (by decide)) (U.G 11 (by decide)) (hr.mono (by decide)) (by rfl) (U.m 11 (by decide)) (U.b 11 (by decide)) (pa_cons (pv 0) pa_nil)) (pa_cons (pe_mkXK (U.own 11 (by decide)) (U.i 11 (by decide)) (U.t 11 (by decide)) (U.G 11 (by decide)) (hr.mono (by decide)) (by rfl) (U.m 11 (by decide)) (U.kb 11 (by decide)) (pk_cons (pv 1) pk_nil)) pa_nil)) (by rfl))
      (pss_cons (ps_expr (pe_bm PySem.F.plainAttrs_list PySem.F.slot_list_append PySem.F.type_list_append mt_append (pv 2) (pa_cons (pe_tup (pa_cons (pv 3) (pa_cons (pv 4) (pa_cons (pe_xv (pv 3)) (pa_cons (pe_xv (pv 4)) pa_nil))))) pa_nil)))
      (pss_cons (ps_par (i := 3) (j := 4) rfl nd rfl rfl (by decide) rfl rfl (pa_cons (pe_mkX (U.own 12 (by decide)) (U.i 12 (by decide)) (U.t 12 (by decide)) (U.G 12 (by decide)) (hr.mono (by decide)) (by rfl) (U.m 12 (by decide)) (U.b 12 (by decide)) (pa_cons (pv 0) pa_nil)) (pa_cons (pe_mkXK (U.own 12 (by decide)) (U.i 12 (by decide)) (U.t 12 (by decide)) (U.G 12 (by decide)) (hr.mono (by decide)) (by rfl) (U.m 12 (by decide)) (U.kb 12 (by decide)) (pk_cons (pv 1) pk_nil)) pa_nil)) (by rfl))
      (pss_cons (ps_expr (pe_bm PySem.F.plainAttrs_list PySem.F.slot_list_append PySem.F.type_list_append mt_append (pv 2) (pa_cons (pe_tup (pa_cons (pv 3) (pa_cons (pv 4) (pa_cons (pe_xv (pv 3)) (pa_cons (pe_xv (pv 4)) pa_nil))))) pa_nil)))
      (pss_cons (ps_par (i := 3) (j := 4) rfl nd rfl rfl (by decide) rfl rfl (pa_cons (pe_mkX (U.own 13 (by decide)) (U.i 13 (by decide)) (U.t 13 (by decide)) (U.G 13 (by decide)) (hr.mono (by decide)) (by rfl) (U.m 13 (by decide)) (U.b 13 (by decide)) (pa_cons (pv 0) pa_nil)) (pa_cons (pe_mkXK (U.own 13 (by decide)) (U.i 13 (by decide)) (U.t 13 (by decide)) (U.G 13 (by decide)) (hr.mono (by decide)) (by rfl) (U.m 13 (by decide)) (U.kb 13 (by decide)) (pk_cons (pv 1) pk_nil)) pa_nil)) (by rfl))
      (pss_cons (ps_expr (pe_bm PySem.F.plainAttrs_list PySem.F.slot_list_append PySem.F.type_list_append mt_append (pv 2) (pa_cons (pe_tup (pa_cons (pv 3) (pa_cons (pv 4) (pa_cons (pe_xv (pv 3)) (pa_cons (pe_xv (pv 4)) pa_nil))))) pa_nil)))
      (pss_cons (ps_par (i := 3) (j := 4) rfl nd rfl rfl (by decide) rfl rfl (pa_cons (pe_mkX (U.own 14 (by decide)) (U.i 14 (by decide)) (U.t 14 (by decide)) (U.G 14 (by decide)) (hr.mono (by decide)) (by rfl) (U.m 14 (by decide)) (U.b 14 (by decide)) (pa_cons (pv 0) pa_nil)) (pa_cons (pe_mkXK (U.own 14 (by decide)) (U.i 14 (by decide)) (U.t 14 (by decide)) (U.G 14 (by decide)) (hr.mono (by decide)) (by rfl) (U.m 14 (by decide)) (U.kb 14 (by decide)) (pk_cons (pv 1) pk_nil)) pa_nil)) (by rfl))
      (pss_cons (ps_expr (pe_bm PySem.F.plainAttrs_list PySem.F.slot_list_append PySem.F.type_list_append mt_append (pv 2) (pa_cons (pe_tup (pa_cons (pv 3) (pa_cons (pv 4) (pa_cons (pe_xv (pv 3)) (pa_cons (pe_xv (pv 4)) pa_nil))))) pa_nil)))
      (pss_cons (ps_par (i := 3) (j := 4) rfl nd rfl rfl (by decide) rfl rfl (pa_cons (pe_mkX (U.own 15 (by decide)) (U.i 15 (by decide)) (U.t 15 (by decide)) (U.G 15 (by decide)) (hr.mono (by decide)) (by rfl) (U.m 15 (by decide)) (U.b 15 (by decide)) (pa_cons (pv 0) pa_nil)) (pa_cons (pe_mkXK (U.own 15 (by decide)) (U.i 15 (by decide)) (U.t 15 (by decide)) (U.G 15 (by decide)) (hr.mono (by decide)) (by rfl) (U.m 15 (by decide)) (U.kb 15 (by decide)) (pk_cons (pv 1) pk_nil)) pa_nil)) (by rfl))
      (pss_cons (ps_expr (pe_bm PySem.F.plainAttrs_list PySem.F.slot_list_append PySem.F.type_list_append mt_append (pv 2) (pa_cons (pe_tup (pa_cons (pv 3) (pa_cons (pv 4) (pa_cons (pe_xv (pv 3)) (pa_cons (pe_xv (pv 4)) pa_nil))))) pa_nil)))
      (pss_cons (ps_par (i := 3) (j := 4) rfl nd rfl rfl (by decide) rfl rfl (pa_cons (pe_mkX (U.own 16 (by decide)) (U.i 16 (by decide)) (U.t 16 (by decide)) (U.G 16 (by decide)) (hr.mono (by decide)) (by rfl) (U.m 16 (by decide)) (U.b 16 (by decide)) (pa_cons (pv 0) pa_nil)) (pa_cons (pe_mkXK (U.own 16 (by decide)) (U.i 16 (by decide)) (U.t 16 (by decide)) (U.G 16 (by decide)) (hr.mono (by decide)) (by rfl) (U.m 16 (by decide)) (U.kb 16 (by decide)) (pk_cons (pv 1) pk_nil)) pa_nil)) (by rfl))
      (pss_cons (ps_expr (pe_bm PySem.F.plainAttrs_list PySem.F.slot_list_append PySem.F.type_list_append mt_append (pv 2) (pa_cons (pe_tup (pa_cons (pv 3) (pa_cons (pv 4) (pa_cons (pe_xv (pv 3)) (pa_cons (pe_xv (pv 4)) pa_nil))))) pa_nil)))
      (pss_cons (ps_par (i := 3) (j := 4) rfl nd rfl rfl (by decide) rfl rfl (pa_cons (pe_mkX (U.own 17 (by decide)) (U.i 17 (by decide)) (U.t 17 (by decide)) (U.G 17 (by decide)) (hr.mono (by decide)) (by rfl) (U.m 17 (by decide)) (U.b 17 (by decide)) (pa_cons (pv 0) pa_nil)) (pa_cons (pe_mkXK (U.own 17 (by decide)) (U.i 17 (by decide)) (U.t 17 (by decide)) (U.G 17 (by decide)) (hr.mono (by decide)) (by rfl) (U.m 17 (by decide)) (U.kb 17 (by decide)) (pk_cons (pv 1) pk_nil)) pa_nil)) (by rfl))
      (pss_cons (ps_expr (pe_bm PySem.F.plainAttrs_list PySem.F.slot_list_append PySem.F.type_list_append mt_append (pv 2) (pa_cons (pe_tup (pa_cons (pv 3) (pa_cons (pv 4) (pa_cons (pe_xv (pv 3)) (pa_cons (pe_xv (pv 4)) pa_nil))))) pa_nil)))
      (pss_cons (ps_par (i := 3) (j := 4) rfl nd rfl rfl (by decide) rfl rfl (pa_cons (pe_mkX (U.own 18 (by decide)) (U.i 18 (by decide)) (U.t 18 (by decide)) (U.G 18 (by decide)) (hr.mono (by decide)) (by rfl) (U.m 18 (by decide)) (U.b 18 (by decide)) (pa_cons (pv 0) pa_nil)) (pa_cons (pe_mkXK (U.own 18 (by decide)) (U.i 18 (by decide)) (U.t 18 (by decide)) (U.G 18 (by decide)) (hr.mono (by decide)) (by rfl) (U.m 18 (by decide)) (U.kb 18 (by decide)) (pk_cons (pv 1) pk_nil)) pa_nil)) (by rfl))
      (pss_cons (ps_expr (pe_bm PySem.F.plainAttrs_list PySem.F.slot_list_append PySem.F.type_list_append mt_append (pv 2) (pa_cons (pe_tup (pa_cons (pv 3) (pa_cons (pv 4) (pa_cons (pe_xv (pv 3)) (pa_cons (pe_xv (pv 4)) pa_nil))))) pa_nil)))
      (pss_cons (ps_par (i := 3) (j := 4) rfl nd rfl rfl (by decide) rfl rfl (pa_cons (pe_mkX (U.own 19 (by decide)) (U.i 19 (by decide)) (U.t 19 (by decide)) (U.G 19 (by decide)) (hr.mono (by decide)) (by rfl) (U.m 19 (by decide)) (U.b 19 (by decide)) (pa_cons (pv 0) pa_nil)) (pa_cons (pe_mkXK (U.own 19 (by decide)) (U.i 19 (by decide)) (U.t 19 (by decide)) (U.G 19 (by decide)) (hr.mono (by decide)) (by rfl) (U.m 19 (by decide)) (U.kb 19 (by decide)) (pk_cons (pv 1) pk_nil)) pa_nil)) (by rfl))
      (pss_cons (ps_expr (pe_bm PySem.F.plainAttrs_list PySem.F.slot_list_append PySem.F.type_list_append mt_append (pv 2) (pa_cons (pe_tup (pa_cons (pv 3) (pa_cons (pv 4) (pa_cons (pe_xv (pv 3)) (pa_cons (pe_xv (pv 4)) pa_nil))))) pa_nil)))
      (pss_one (ps_ret (pv 2)))))))))))))))))))))))), ?_⟩
    refine ⟨Nat.zero_le _, fun p np => ?_⟩
    have s0 : Same H (upd H p (.lst [])) := same_new np
    have hp0 : upd H p (.lst []) p = some (.lst []) := upd_same
    have rows0 : RowsX A (upd H p (.lst [])) va vb 10 [] := True.intro
    generalize upd H p (.lst []) = H0 at s0 hp0 rows0 ⊢
    refine row_step (U.x 10 (by decide)) (U.no 10 (by decide)) rfl s0 np hp0 rows0 rfl (by show 0 ≤ 20; decide) fun x1 y1 H1 r1 s1 hp1 rows1 => ?_
    clear s0 hp0 rows0
    refine row_step (U.x 11 (by decide)) (U.no 11 (by decide)) rfl s1 np hp1 rows1 rfl (by show 1 ≤ 20; decide) fun x2 y2 H2 r2 s2 hp2 rows2 => ?_
    clear s1 hp1 rows1
    refine row_step (U.x 12 (by decide)) (U.no 12 (by decide)) rfl s2 np hp2 rows2 rfl (by show 2 ≤ 20; decide) fun x3 y3 H3 r3 s3 hp3 rows3 => ?_
    clear s2 hp2 rows2
    refine row_step (U.x 13 (by decide)) (U.no 13 (by decide)) rfl s3 np hp3 rows3 rfl (by show 3 ≤ 20; decide) fun x4 y4 H4 r4 s4 hp4 rows4 => ?_
    clear s3 hp3 rows3
    refine row_step (U.x 14 (by decide)) (U.no 14 (by decide)) rfl s4 np hp4 rows4 rfl (by show 4 ≤ 20; decide) fun x5 y5 H5 r5 s5 hp5 rows5 => ?_
    clear s4 hp4 rows4
    refine row_step (U.x 15 (by decide)) (U.no 15 (by decide)) rfl s5 np hp5 rows5 rfl (by show 5 ≤ 20; decide) fun x6 y6 H6 r6 s6 hp6 rows6 => ?_
    clear s5 hp5 rows5
    refine row_step (U.x 16 (by decide)) (U.no 16 (by decide)) rfl s6 np hp6 rows6 rfl (by show 6 ≤ 20; decide) fun x7 y7 H7 r7 s7 hp7 rows7 => ?_
    clear s6 hp6 rows6
    refine row_step (U.x 17 (by decide)) (U.no 17 (by decide)) rfl s7 np hp7 rows7 rfl (by show 7 ≤ 20; decide) fun x8 y8 H8 r8 s8 hp8 rows8 => ?_
    clear s7 hp7 rows7
    refine row_step (U.x 18 (by decide)) (U.no 18 (by decide)) rfl s8 np hp8 rows8 rfl (by show 8 ≤ 20; decide) fun x9 y9 H9 r9 s9 hp9 rows9 => ?_
    clear s8 hp8 rows8
    refine row_step (U.x 19 (by decide)) (U.no 19 (by decide)) rfl s9 np hp9 rows9 rfl (by show 9 ≤ 20; decide) fun x10 y10 H10 r10 s10 hp10 rows10 => ?_
    clear s9 hp9 rows9
    exact ⟨_, rfl, q p _ _ s10 np hp10 rfl rows10⟩
theorem ok_rows_three {A I : Nat → Addr} {D : Nat → FuncData} {S : Addr} {f : Addr} {fd : FuncData} (U : Kit P w K mg base A I D S) (F : Fun K "_law_errors_three" "_law_errors_three" s__law_errors_three f fd) : GFn P w K mg base CX0 3 f fd ["_law_a", "_law_b"] (spRows A 20) := by
  refine gfun_ok F sc__law_errors_three (fun vs H Q E h => ?_) (fun cdv B outer s H vs Q E hgu hr h => ?_)
  · obtain ⟨va, vb, rfl, _⟩ := h
    rfl
  · obtain ⟨va, vb, rfl, q⟩ := h
    have nd := sc__law_errors_three.nd
    refine ⟨_, (pss_cons (ps_set (i := 2) nd rfl (Or.inl rfl) (pe_lst pa_nil))
      (pss_cons (ps_par (i := 3) (j := 4) rfl nd rfl rfl (by decide) rfl rfl (pa_cons (pe_mkX (U.own 20 (by decide)) (U.i 20 (by decide)) (U.t 20 (by decide)) (U.G 20 (by decide)) (hr.mono (by decide)) (by rfl) (U.m 20 (by decide)) (U.b 20 (by decide)) (pa_cons (pv 0) pa_nil)) (pa_cons (pe_mkXK (U.own 20 (by decide)) (U.i 20 (by decide)) (U.t 20 (by decide)) (U.G 20 (by decide)) (hr.mono (by decide)) (by rfl) (U.m 20 (by decide)) (U.kb 20 (by decide)) (pk_cons (pv 1) pk_nil)) pa_nil)) (by rfl))
      (pss_cons (ps_expr (pe_bm PySem.F.plainAttrs_list PySem.F.slot_list_append PySem.F.type_list_append mt_append (pv 2) (pa_cons (pe_tup (pa_cons (pv 3) (pa_cons (pv 4) (pa_cons (pe_xv (pv 3)) (pa_cons (pe_xv (pv 4)) pa_nil))))) pa_nil)))
      (pss_cons (ps_par (i := 3) (j := 4) rfl nd rfl rfl (by decide) rfl rfl (pa_cons (pe_mkX (U.own 21 (by decide)) (U.i 21 (by decide)) (U.t 21 (by decide)) (U.G 21 (by decide)) (hr.mono (by decide)) (by rfl) (U.m 21 (by decide)) (U.b 21 (by decide)) (pa_cons (pv 0) pa_nil)) (pa_cons (pe_mkXK (U.own 21 (by decide)) (U.i 21 (by decide)) (U.t 21 (by decide)) (U.G 21 (by decide)) (hr.mono (by decide)) (by rfl) (U.m 21 (by decide)) (U.kb 21 (by decide)) (pk_cons (pv 1) pk_nil)) pa_nil)) (by rfl))
      (pss_cons (ps_expr (pe_bm PySem.F.plainAttrs_list PySem.F.slot_list_append PySem.F.type_list_append mt_append (pv 2) (pa_cons (pe_tup (pa_cons (pv 3) (pa_cons (pv 4) (pa_cons (pe_xv (pv 3)) (pa_cons (pe_xv (pv 4)) pa_nil))))) pa_nil)))
      (pss_cons (ps_par (i := 3) (j := 4) rfl nd rfl rfl (by decide) rfl rfl (pa_cons (pe_mkX (U.own 22 (by decide)) (U.i 22 (by decide)) (U.t 22 (by decide)) (U.G 22 (by decide)) (hr.mono (by decide)) (by rfl) (U.m 22 (by decide)) (U.b 22 (by decide)) (pa_cons (pv 0) pa_nil)) (pa_cons (pe_mkXK (U.own 22 (by decide)) (U.i 22 (by decide)) (U.t 22 (by decide)) (U.G 22 (by decide)) (hr.mono (by decide)) (by rfl) (U.m 22 (by decide)) (U.kb 22 (by decide)) (pk_cons (pv 1) pk_nil)) pa_nil)) (by rfl))
      (pss_cons (ps_expr (pe_bm PySem.F.plainAttrs_list PySem.F.slot_list_append PySem.F.type_list_append mt_append (pv 2) (pa_cons (pe_tup (pa_cons (pv 3) (pa_cons (pv 4) (pa_cons (pe_xv (pv 3)) (pa_cons (pe_xv (pv 4)) pa_nil))))) pa_nil)))
      (pss_cons (ps_par (i := 3) (j := 4) rfl nd rfl rfl (by decide) rfl rfl (pa_cons (pe_mkX (U.own 23 (by decide)) (U.i 23 (by decide)) (U.t 23 (by decide)) (U.G 23 (by decide)) (hr.mono (by decide)) (by rfl) (U.m 23 (by decide)) (U.b 23 (by decide)) (pa_cons (pv 0) pa_nil)) (pa_cons (pe_mkXK (U.own 23 (by decide)) (U.i 23 (by decide)) (U.t 23 (by decide)) (U.G 23 (by decide)) (hr.mono (by decide)) (by rfl) (U.m 23 (by decide)) (U.kb 23 (by decide)) (pk_cons (pv 1) pk_nil)) pa_nil)) (by rfl))
      (pss_cons (ps_expr (pe_bm PySem.F.plainAttrs_list PySem.F.slot_list_append PySem.F.type_list_append mt_append (pv 2) (pa_cons (pe_tup (pa_cons (pv 3) (pa_cons (pv 4) (pa_cons (pe_xv (pv 3)) (pa_cons (pe_xv (pv 4)) pa_nil))))) pa_nil)))
      (pss_cons (ps_par (i := 3) (j := 4) rfl nd rfl rfl (by decide) rfl rfl (pa_cons (pe_mkX (U.own 24 (by decide)) (U.i 24 (by decide)) (U.t 24 (by decide)) (U.G 24 (by decide)) (hr.mono (by decide)) (by rfl) (U.m 24 (by decide)) (U.b 24 (by decide)) (pa_cons (pv 0) pa_nil)) (pa_cons (pe_mkXK (U.own 24 (by decide)) (U.i 24 (by decide)) (U.t 24 (by decide)) (U.G 24 (by decide)) (hr.mono (by decide)) (by rfl) (U.m 24 (by decide)) (U.kb 24 (by decide)) (pk_cons (pv 1) pk_nil)) pa_nil)) (by rfl))
      (pss_cons (ps_expr (pe_bm PySem.F.plainAttrs_list PySem.F.slot_list_append PySem.F.type_list_append mt_append (pv 2) (pa_cons (pe_tup (pa_cons (pv 3) (pa_cons (pv 4) (pa_cons (pe_xv (pv 3)) (pa_cons (pe_xv (pv 4)) pa_nil))))) pa_nil)))
      (pss_cons (ps_par (i := 3) (j := 4) rfl nd rfl rfl (by decide) rfl rfl (pa_cons (pe_mkX (U.own 25 (by decide)) (U.i 25 (by decide)) (U.t 25 (by decide)) (U.G 25 (by decide)) (hr.mono (by decide)) (by rfl) (U.m 25 (by decide)) (U.b 25 (by decide)) (pa_cons (pv 0) pa_nil)) (pa_cons (pe_mkXK (U.own 25 (by decide)) (U.i 25 (by decide)) (U.t 25 (by decide)) (U.G 25 (by decide)) (hr.mono (by decide)) (by rfl) (U.m 25 (by decide)) (U.kb 25 (by decide)) (pk_cons (pv 1) pk_nil)) pa_nil)) (by rfl))
      (pss_cons (ps_expr (pe_bm PySem.F.plainAttrs_list PySem.F.slot_list_append PySem.F.type_list_append mt_append (pv 2) (pa_cons (pe_tup (pa_cons (pv 3) (pa_cons (pv 4) (pa_cons (pe_xv (pv 3)) (pa_cons (pe_xv (pv 4)) pa_nil))))) pa_nil)))
      (pss_cons (ps_par (i := 3) (j := 4) rfl nd rfl rfl (by decide) rfl rfl (pa_cons (pe_mkX (U.own 26 (by decide)) (U.i 26 (by decide)) (U.t 26 (by decide)) (U.G 26 (by decide)) (hr.mono (by decide)) (by rfl) (U.m 26 (by decide)) (U.b 26 (by decide)) (pa_cons (pv 0) pa_nil)) (pa_cons (pe_mkXK (U.own 26 (by decide)) (U.i 26 (by decide)) (U.t 26 (by decide)) (U.G 26 (by decide)) (hr.mono (by decide)) (by rfl) (U.m 26 (by decide)) (U.kb 26 (by decide)) (pk_cons (pv 1) pk_nil)) pa_nil)) (by rfl))
      (pss_cons (ps_expr (pe_bm PySem.F.plainAttrs_list PySem.F.slot_list_append PySem.F.type_list_append mt_append (pv 2) (pa_cons (pe_tup (pa_cons (pv 3) (pa_cons (pv 4) (pa_cons (pe_xv (pv 3)) (pa_cons (pe_xv (pv 4)) pa_nil))))) pa_nil)))
      (pss_cons (ps_par (i := 3) (j := 4) rfl nd rfl rfl (by decide) rfl rfl (pa_cons (pe_mkX (U.own 27 (by decide)) (U.i 27 (by decide)) (U.t 27 (by decide)) (U.G 27 (by decide)) (hr.mono (by decide)) (by rfl) (U.m 27 (by decide)) (U.b 27 (by decide)) (pa_cons (pv 0) pa_nil)) (pa_cons (pe_mkXK (U.own 27 (by decide)) (U.i 27 (by decide)) (U.t 27 (by decide)) (U.G 27 (by decide)) (hr.mono (by decide)) (by rfl) (U.m 27 (by decide)) (U.kb 27 (by decide)) (pk_cons (pv 1) pk_nil)) pa_nil)) (by rfl))
      (pss_cons (ps_expr (pe_bm PySem.F.plainAttrs_list PySem.F.slot_list_append PySem.F.type_list_append mt_append (pv 2) (pa_cons (pe_tup (pa_cons (pv 3) (pa_cons (pv 4) (pa_cons (pe_xv (pv 3)) (pa_cons (pe_xv (pv 4)) pa_nil))))) pa_nil)))
      (pss_cons (ps_par (i := 3) (j := 4) rfl nd rfl rfl (by decide) rfl rfl (pa_cons (pe_mkX (U.own 28 (by decide)) (U.i 28 (by decide)) (U.t 28 (by decide)) (U.G 28 (by decide)) (hr.mono (by decide)) (by rfl) (U.m 28 (by decide)) (U.b 28 (by decide)) (pa_cons (pv 0) pa_nil)) (pa_cons (pe_mkXK (U.own 28 (by decide)) (U.i 28 (by decide)) (U.t 28 (by decide)) (U.G 28 (by decide)) (hr.mono (by decide)) (by rfl) (U.m 28 (by decide)) (U.kb 28 (by decide)) (pk_cons (pv 1) pk_nil)) pa_nil)) (by rfl))
      (pss_cons (ps_expr (pe_bm PySem.F.plainAttrs_list PySem.F.slot_list_append PySem.F.type_list_append mt_append (pv 2) (pa_cons (pe_tup (pa_cons (pv 3) (pa_cons (pv 4) (pa_cons (pe_xv (pv 3)) (pa_cons (pe_xv (pv 4)) pa_nil))))) pa_nil)))
      (pss_cons (ps_par (i := 3) (j := 4) rfl nd rfl rfl (by decide) rfl rfl (pa_cons (pe_mkX (U.own 29 (by decide)) (U.i 29 (by decide)) (U.t 29 (by decide)) (U.G 29 (by decide)) (hr.mono (by decide)) (by rfl) (U.m 29 (by decide)) (U.b 29 (by decide)) (pa_cons (pv 0) pa_nil)) (pa_cons (pe_mkXK (U.own 29 (by decide)) (U.i 29 (by decide)) (U.t 29 (by decide)) (U.G 29 (by decide)) (hr.mono (by decide)) (by rfl) (U.m 29 (by decide)) (U.kb 29 (by decide)) (pk_cons (pv 1) pk_nil)) pa_nil)) (by rfl))
      (pss_cons (ps_expr (pe_bm PySem.F.plainAttrs_list PySem.F.slot_list_append PySem.F.type_list_append mt_append (pv 2) (pa_cons (pe_tup (pa_cons (pv 3) (pa_cons (pv 4) (pa_cons (pe_xv (pv 3)) (pa_cons (pe_xv (pv 4)) pa_nil))))) pa_nil)))
      (pss_one (ps_ret (pv 2)))))))))))))))))))))))), ?_⟩
    refine ⟨Nat.zero_le _, fun p np => ?_⟩
    have s0 : Same H (upd H p (.lst [])) := same_new np
    have hp0 : upd H p (.lst []) p = some (.lst []) := upd_same
    have rows0 : RowsX A (upd H p (.lst [])) va vb 20 [] := True.intro
    generalize upd H p (.lst []) = H0 at s0 hp0 rows0 ⊢
    refine row_step (U.x 20 (by decide)) (U.no 20 (by decide)) rfl s0 np hp0 rows0 rfl (by show 0 ≤ 20; decide) fun x1 y1 H1 r1 s1 hp1 rows1 => ?_
    clear s0 hp0 rows0
    refine row_step (U.x 21 (by decide)) (U.no 21 (by decide)) rfl s1 np hp1 rows1 rfl (by show 1 ≤ 20; decide) fun x2 y2 H2 r2 s2 hp2 rows2 => ?_
    clear s1 hp1 rows1
    refine row_step (U.x 22 (by decide)) (U.no 22 (by decide)) rfl s2 np hp2 rows2 rfl (by show 2 ≤ 20; decide) fun x3 y3 H3 r3 s3 hp3 rows3 => ?_
    clear s2 hp2 rows2
    refine row_step (U.x 23 (by decide)) (U.no 23 (by decide)) rfl s3 np hp3 rows3 rfl (by show 3 ≤ 20; decide) fun x4 y4 H4 r4 s4 hp4 rows4 => ?_
    clear s3 hp3 rows3
    refine row_step (U.x 24 (by decide)) (U.no 24 (by decide)) rfl s4 np hp4 rows4 rfl (by show 4 ≤ 20; decide) fun x5 y5 H5 r5 s5 hp5 rows5 => ?_
    clear s4 hp4 rows4
    refine row_step (U.x 25 (by decide)) (U.no 25 (by decide)) rfl s5 np hp5 rows5 rfl (by show 5 ≤ 20; decide) fun x6 y6 H6 r6 s6 hp6 rows6 => ?_
    clear s5 hp5 rows5
    refine row_step (U.x 26 (by decide)) (U.no 26 (by decide)) rfl s6 np hp6 rows6 rfl (by show 6 ≤ 20; decide) fun x7 y7 H7 r7 s7 hp7 rows7 => ?_
    clear s6 hp6 rows6
    refine row_step (U.x 27 (by decide)) (U.no 27 (by decide)) rfl s7 np hp7 rows7 rfl (by show 7 ≤ 20; decide) fun x8 y8 H8 r8 s8 hp8 rows8 => ?_
    clear s7 hp7 rows7
    refine row_step (U.x 28 (by decide)) (U.no 28 (by decide)) rfl s8 np hp8 rows8 rfl (by show 8 ≤ 20; decide) fun x9 y9 H9 r9 s9 hp9 rows9 => ?_
    clear s8 hp8 rows8
    refine row_step (U.x 29 (by decide)) (U.no 29 (by decide)) rfl s9 np hp9 rows9 rfl (by show 9 ≤ 20; decide) fun x10 y10 H10 r10 s10 hp10 rows10 => ?_
    clear s9 hp9 rows9
    exact ⟨_, rfl, q p _ _ s10 np hp10 rfl rows10⟩
end
end SG

/-! What an exception is of. -/
namespace SG
open PySem PySem.Spec PyProof.Rows L2 TL
local macro_rules
  | `(tactic| clean_wf) => `(tactic| repeat (first | refine ⟨_, rfl, ?_⟩ | refine ⟨rfl, ?_⟩ | refine ⟨_, _, rfl, ?_⟩ | refine ⟨_, _, rfl, rfl, ?_⟩ | refine ⟨_, _, _, rfl, ?_⟩ | refine ⟨_, _, _, _, rfl, ?_⟩))
local macro_rules
  | `(tactic| exists $u:ident, $n:ident, $H:ident, $q:ident, $e:ident) => `(tactic| (refine ⟨by first | exact Nat.zero_le _ | assumption | (simp only [List.length_cons, List.length_nil]; decide), fun $u $n => ?_⟩; generalize hh : upd _ $u _ = $H; obtain ⟨$q, $e⟩ := mkq $n hh; clear hh))
local macro_rules
  | `(tactic| simp_wf) => `(tactic| first | assumption | exact upd_same | (refine (by assumption : Same _ _) _ _ ?_; simp_wf) | (refine (by assumption : Kept _ _ _ _) _ _ ?_ (by assumption) (by assumption); simp_wf))
local macro_rules
  | `(tactic| decreasing_trivial) => `(tactic| first | assumption | exact .inl (.inl (by assumption)) | (refine sameT (by assumption) ?_; decreasing_trivial))
local macro_rules
  | `(tactic| array_get_dec) => `(tactic| first | assumption | (refine CdAt.same (by assumption) ?_; array_get_dec))
theorem dpBls {K : PySem.W.Frag} {H : Hp} : ∀ bs : List Bool, DpAll K H (bs.map V.bl) (bs.map PyData.bool)
  | [] => .nil
  | b :: bs => .cons (.bl b) (dpBls bs)
section
variable {P : Program} {w : World} {K : PySem.W.Frag} {mg : Str → Option Value} {base : Heap}
def kindsL (i : Nat) : List Bool := (List.range 33).map fun j => decide (i = j)
theorem kinds_shaped : ∀ i, i < 33 → SeqAt.shaped (.list ((kindsL i).map PyData.bool)) = true := by decide +kernel
theorem kinds_eqv : ∀ i, i < 33 → PyData.eqv (.list ((kindsL i).map PyData.bool)) (.list ((kindsL i).map PyData.bool)) = true := by decide +kernel
def spKinds (A : Nat → Addr) : Sp := fun vs H Q _ => ∃ (a : Addr) (i : Nat), vs = [.ref a] ∧ i < 33 ∧ XAt H a (A i) ∧ ∀ (p : Addr) (H2 : Hp), Same H H2 → H2 p = some (.lst ((kindsL i).map V.bl)) → Q (.ref p) H2
def spAlone (A : Nat → Addr) : Sp := fun vs H Q _ => ∃ (a : Addr) (i : Nat), vs = [.ref a, .int (i : Int)] ∧ i < 33 ∧ XAt H a (A i) ∧ ∀ H2 : Hp, Same H H2 → Q (.bl true) H2
theorem XAt.to {H H2 : Hp} {a C : Addr} (h : XAt H a C) (s : Same H H2) : XAt H2 a C := by
  rcases h with h | ⟨d, fs, h1, h2⟩
  · exact .inl (s _ _ h)
  · exact .inr ⟨d, fs, s _ _ h1, s _ _ h2⟩
theorem kinds_step {K : PySem.W.Frag} {A : Nat → Addr} {i c1 c2 c3 : Nat} {a p : Addr} {bs : List Bool} {H : Hp} {rest : TS} {D : Ends} (X : XC K (A i)) (hx : XAt H a (A i)) (hp : H p = some (.lst (bs.map V.bl))) (few : bs.length ≤ 100)
    (k1 : PySem.W.kitOne K (.ref (A i)) (.ref (A c1)) = some (decide (i = c1))) (k2 : PySem.W.kitOne K (.ref (A i)) (.ref (A c2)) = some (decide (i = c2))) (k3 : PySem.W.kitOne K (.ref (A i)) (.ref (A c3)) = some (decide (i = c3)))
    (next : ∀ (p2 : Addr) (H2 : Hp), Same H H2 → H2 p2 = some (.lst ((bs ++ [decide (i = c1), decide (i = c2), decide (i = c3)]).map V.bl)) → rest D [some (.ref a), some (.ref p2)] H2) :
    tSeq (tAsg (tOp rCat (tVar 1) (tLst (tCons (tCB (rIsV K) (tCons (tVar 0) (tCons (tC (V.ref (A c1))) tNil))) (tCons (tCB (rIsV K) (tCons (tVar 0) (tCons (tC (V.ref (A c2))) tNil))) (tCons (tCB (rIsV K) (tCons (tVar 0) (tCons (tC (V.ref (A c3))) tNil))) tNil))))) (gName 1)) rest D [some (.ref a), some (.ref p)] H := by
  refine ⟨_, rfl, _, rfl, a, A i, .ref (A c1), .ref (A c1), _, rfl, hx, X.ex, X.cl, fun _ r => r, k1, _, rfl, a, A i, .ref (A c2), .ref (A c2), _, rfl, hx, X.ex, X.cl, fun _ r => r, k2, _, rfl, a, A i, .ref (A c3), .ref (A c3), _, rfl, hx, X.ex, X.cl, fun _ r => r, k3, by show 3 ≤ sizeLine; decide, fun p1 n1 => ?_⟩
  have s1 := same_new (o := .lst [V.bl (decide (i = c1)), V.bl (decide (i = c2)), V.bl (decide (i = c3))]) n1
  refine ⟨p, p1, _, _, rfl, rfl, s1 _ _ hp, upd_same, ?_, fun p2 n2 => ?_⟩
  · rw [List.length_map]
    exact Nat.le_of_lt (small1000 (by show bs.length + 3 ≤ 1000; omega))
  · refine next p2 _ (s1.trans (same_new n2)) ?_
    rw [upd_same, List.map_append]
    rfl
theorem ok_kinds {A I : Nat → Addr} {D : Nat → FuncData} {S : Addr} {f : Addr} {fd : FuncData} (U : Kit P w K mg base A I D S) (F : Fun K "_law_kinds" "_law_kinds" s__law_kinds f fd) (T : Txt mg) : GFn P w K mg base CX0 1 f fd ["_law_e"] (spKinds A) := by
  refine gfun_ok F sc__law_kinds (fun vs H Q E h => ?_) (fun cdv B outer s H vs Q E hgu hr h => ?_)
  · obtain ⟨a, i, rfl, _⟩ := h
    rfl
  · obtain ⟨a, i, rfl, hi, hx, q⟩ := h
    have nd := sc__law_kinds.nd
    refine ⟨_, (pss_cons (ps_set (i := 1) nd rfl (Or.inl rfl) (pe_lst pa_nil))
      (pss_cons (ps_set (i := 1) nd rfl (Or.inl rfl) (pe_op op_cat (pv 1) (pe_lst (pa_cons (pe_callB (call_isV (K := K)) (by rfl) T.isinstance (by decide +kernel) (pa_cons (pv 0) (pa_cons (pe_glob (v := .ref (A 0)) (by rfl) (U.m 0 (by decide)) rfl) pa_nil))) (pa_cons (pe_callB (call_isV (K := K)) (by rfl) T.isinstance (by decide +kernel) (pa_cons (pv 0) (pa_cons (pe_glob (v := .ref (A 1)) (by rfl) (U.m 1 (by decide)) rfl) pa_nil))) (pa_cons (pe_callB (call_isV (K := K)) (by rfl) T.isinstance (by decide +kernel) (pa_cons (pv 0) (pa_cons (pe_glob (v := .ref (A 2)) (by rfl) (U.m 2 (by decide)) rfl) pa_nil))) pa_nil))))))
      (pss_cons (ps_set (i := 1) nd rfl (Or.inl rfl) (pe_op op_cat (pv 1) (pe_lst (pa_cons (pe_callB (call_isV (K := K)) (by rfl) T.isinstance (by decide +kernel) (pa_cons (pv 0) (pa_cons (pe_glob (v := .ref (A 3)) (by rfl) (U.m 3 (by decide)) rfl) pa_nil))) (pa_cons (pe_callB (call_isV (K := K)) (by rfl) T.isinstance (by decide +kernel) (pa_cons (pv 0) (pa_cons (pe_glob (v := .ref (A 4)) (by rfl) (U.m 4 (by decide)) rfl) pa_nil))) (pa_cons (pe_callB (call_isV (K := K)) (by rfl) T.isinstance (by decide +kernel) (pa_cons (pv 0) (pa_cons (pe_glob (v := .ref (A 5)) (by rfl) (U.m 5 (by decide)) rfl) pa_nil))) pa_nil))))))
      (pss_cons (ps_set (i := 1) nd rfl (Or.inl rfl) (pe_op op_cat (pv 1) (pe_lst (pa_cons (pe_callB (call_isV (K := K)) (by rfl) T.isinstance (by decide +kernel) (pa_cons (pv 0) (pa_cons (pe_glob (v := .ref (A 6)) (by rfl) (U.m 6 (by decide)) rfl) pa_nil))) (pa_cons (pe_callB (call_isV (K := K)) (by rfl) T.isinstance (by decide +kernel) (pa_cons (pv 0) (pa_cons (pe_glob (v := .ref (A 7)) (by rfl) (U.m 7 (by decide)) rfl) pa_nil))) (pa_cons (pe_callB (call_isV (K := K)) (by rfl) T.isinstance (by decide +kernel) (pa_cons (pv 0) (pa_cons (pe_glob (v := .ref (A 8)) (by rfl) (U.m 8 (by decide)) rfl) pa_nil))) pa_nil))))))
      (pss_cons (ps_set (i := 1) nd rfl (Or.inl rfl) (pe_op op_cat (pv 1) (pe_lst (pa_cons (pe_callB (call_isV (K := K)) (by rfl) T.isinstance (by decide +kernel) (pa_cons (pv 0) (pa_cons (pe_glob (v := .ref (A 9)) (by rfl) (U.m 9 (by decide)) rfl) pa_nil))) (pa_cons (pe_callB (call_isV (K := K)) (by rfl) T.isinstance (by decide +kernel) (pa_cons (pv 0) (pa_cons (pe_glob (v := .ref (A 10)) (by rfl) (U.m 10 (by decide)) rfl) pa_nil))) (pa_cons (pe_callB (call_isV (K := K)) (by rfl) T.isinstance (by decide +kernel) (pa_cons (pv 0) (pa_cons (pe_glob (v := .ref (A 11)) (by rfl) (U.m 11 (by decide)) rfl) pa_nil))) pa_nil))))))
      (pss_cons (ps_set (i := 1) nd rfl (Or.inl rfl) (pe_op op_cat (pv 1) (pe_lst (pa_cons (pe_callB (call_isV (K := K)) (by rfl) T.isinstance (by decide +kernel) (pa_cons (pv 0) (pa_cons (pe_glob (v := .ref (A 12)) (by rfl) (U.m 12 (by decide)) rfl) pa_nil))) (pa_cons (pe_callB (call_isV (K := K)) (by rfl) T.isinstance (by decide +kernel) (pa_cons (pv 0) (pa_cons (pe_glob (v := .ref (A 13)) (by rfl) (U.m 13 (by decide)) rfl) pa_nil))) (pa_cons (pe_callB (call_isV (K := K)) (by rfl) T.isinstance (by decide +kernel) (pa_cons (pv 0) (pa_cons (pe_glob (v := .ref (A 14)) (by rfl) (U.m 14 (by decide)) rfl) pa_nil))) pa_nil))))))
      (pss_cons (ps_set (i := 1) nd rfl (Or.inl rfl) (pe_op op_cat (pv 1) (pe_lst (pa_cons (pe_callB (call_isV (K := K)) (by rfl) T.isinstance (by decide +kernel) (pa_cons (pv 0) (pa_cons (pe_glob (v := .ref (A 15)) (by rfl) (U.m 15 (by decide)) rfl) pa_nil))) (pa_cons (pe_callB (call_isV (K := K)) (by rfl) T.isinstance (by decide +kernel) (pa_cons (pv 0) (pa_cons (pe_glob (v := .ref (A 16)) (by rfl) (U.m 16 (by decide)) rfl) pa_nil))) (pa_cons (pe_callB (call_isV (K := K)) (by rfl) T.isinstance (by decide +kernel) (pa_cons (pv 0) (pa_cons (pe_glob (v := .ref (A 17)) (by rfl) (U.m 17 (by decide)) rfl) pa_nil))) pa_nil))))))
      (pss_cons (ps_set (i := 1) nd rfl (Or.inl rfl) (pe_op op_cat (pv 1) (pe_lst (pa_cons (pe_callB (call_isV (K := K)) (by rfl) T.isinstance (by decide +kernel) (pa_cons (pv 0) (pa_cons (pe_glob (v := .ref (A 18)) (by rfl) (U.m 18 (by decide)) rfl) pa_nil))) (pa_cons (pe_callB (call_isV (K := K)) (by rfl) T.isinstance (by decide +kernel) (pa_cons (pv 0) (pa_cons (pe_glob (v := .ref (A 19)) (by rfl) (U.m 19 (by decide)) rfl) pa_nil))) (pa_cons (pe_callB (call_isV (K := K)) (by rfl) T.isinstance (by decide +kernel) (pa_cons (pv 0) (pa_cons (pe_glob (v := .ref (A 20)) (by rfl) (U.m 20 (by decide)) rfl) pa_nil))) pa_nil))))))
      (pss_cons (ps_set (i := 1) nd rfl (Or.inl rfl) (pe_op op_cat (pv 1) (pe_lst (pa_cons (pe_callB (call_isV (K := K)) (by rfl) T.isinstance (by decide +kernel) (pa_cons (pv 0) (pa_cons (pe_glob (v := .ref (A 21)) (by rfl) (U.m 21 (by decide)) rfl) pa_nil))) (pa_cons (pe_callB (call_isV (K := K)) (by rfl) T.isinstance (by decide +kernel) (pa_cons (pv 0) (pa_cons (pe_glob (v := .ref (A 22)) (by rfl) (U.m 22 (by decide)) rfl) pa_nil))) (pa_cons (pe_callB (call_isV (K := K)) (by rfl) T.isinstance (by decide +kernel) (pa_cons (pv 0) (pa_cons (pe_glob (v := .ref (A 23)) (by rfl) (U.m 23 (by decide)) rfl) pa_nil))) pa_nil))))))
      (pss_cons (ps_set (i := 1) nd rfl (Or.inl rfl) (pe_op op_cat (pv 1) (pe_lst (pa_cons (pe_callB (call_isV (K := K)) (by rfl) T.isinstance (by decide +kernel) (pa_cons (pv 0) (pa_cons (pe_glob (v := .ref (A 24)) (by rfl) (U.m 24 (by decide)) rfl) pa_nil))) (pa_cons (pe_callB (call_isV (K := K)) (by rfl) T.isinstance (by decide +kernel) (pa_cons (pv 0) (pa_cons (pe_glob (v := .ref (A 25)) (by rfl) (U.m 25 (by decide)) rfl) pa_nil))) (pa_cons (pe_callB (call_isV (K := K)) (by rfl) T.isinstance (by decide +kernel) (pa_cons (pv 0) (pa_cons (pe_glob (v := .ref (A 26)) (by rfl) (U.m 26 (by decide)) rfl) pa_nil))) pa_nil))))))
      (pss_cons (ps_set (i := 1) nd rfl (Or.inl rfl) (pe_op op_cat (pv 1) (pe_lst (pa_cons (pe_callB (call_isV (K := K)) (by rfl) T.isinstance (by decide +kernel) (pa_cons (pv 0) (pa_cons (pe_glob (v := .ref (A 27)) (by rfl) (U.m 27 (by decide)) rfl) pa_nil))) (pa_cons (pe_callB (call_isV (K := K)) (by rfl) T.isinstance (by decide +kernel) (pa_cons (pv 0) (pa_cons (pe_glob (v := .ref (A 28)) (by rfl) (U.m 28 (by decide)) rfl) pa_nil))) (pa_cons (pe_callB (call_isV (K := K)) (by rfl) T.isinstance (by decide +kernel) (pa_cons (pv 0) (pa_cons (pe_glob (v := .ref (A 29)) (by rfl) (U.m 29 (by decide)) rfl) pa_nil))) pa_nil))))))
      (pss_cons (ps_set (i := 1) nd rfl (Or.inl rfl) (pe_op op_cat (pv 1) (pe_lst (pa_cons (pe_callB (call_isV (K := K)) (by rfl) T.isinstance (by decide +kernel) (pa_cons (pv 0) (pa_cons (pe_glob (v := .ref (A 30)) (by rfl) (U.m 30 (by decide)) rfl) pa_nil))) (pa_cons (pe_callB (call_isV (K := K)) (by rfl) T.isinstance (by decide +kernel) (pa_cons (pv 0) (pa_cons (pe_glob (v := .ref (A 31)) (by rfl) (U.m 31 (by decide)) rfl) pa_nil))) (pa_cons (pe_callB (call_isV (K := K)) (by rfl) T.isinstance (by decide +kernel) (pa_cons (pv 0) (pa_cons (pe_glob (v := .ref (A 32)) (by rfl) (U.m 32 (by decide)) rfl) pa_nil))) pa_nil))))))
      (pss_one (ps_ret (pv 1))))))))))))))), ?_⟩
    refine ⟨Nat.zero_le _, fun p np => ?_⟩
    have s0 : Same H (upd H p (.lst [])) := same_new np
    have hx0 := hx.to s0
    have hp0 : upd H p (.lst []) p = some (.lst (([] : List Bool).map V.bl)) := upd_same
    generalize upd H p (.lst []) = H0 at s0 hx0 hp0 ⊢
    have X := U.x i hi
    have kk : ∀ j, j < 33 → PySem.W.kitOne K (.ref (A i)) (.ref (A j)) = some (decide (i = j)) := fun j hj => U.kit i j hi hj
    refine kinds_step X hx0 hp0 (by show 0 ≤ 100; decide) (kk 0 (by decide)) (kk 1 (by decide)) (kk 2 (by decide)) fun p1 H1 s1 hp1 => ?_
    have hx1 := hx0.to s1
    have s1 := s0.trans s1
    clear hx0 hp0
    refine kinds_step X hx1 hp1 (by show 3 ≤ 100; decide) (kk 3 (by decide)) (kk 4 (by decide)) (kk 5 (by decide)) fun p2 H2 s2 hp2 => ?_
    have hx2 := hx1.to s2
    have s2 := s1.trans s2
    clear hx1 hp1
    refine kinds_step X hx2 hp2 (by show 6 ≤ 100; decide) (kk 6 (by decide)) (kk 7 (by decide)) (kk 8 (by decide)) fun p3 H3 s3 hp3 => ?_
    have hx3 := hx2.to s3
    have s3 := s2.trans s3
    clear hx2 hp2
    refine kinds_step X hx3 hp3 (by show 9 ≤ 100; decide) (kk 9 (by decide)) (kk 10 (by decide)) (kk 11 (by decide)) fun p4 H4 s4 hp4 => ?_
    have hx4 := hx3.to s4
    have s4 := s3.trans s4
    clear hx3 hp3
    refine kinds_step X hx4 hp4 (by show 12 ≤ 100; decide) (kk 12 (by decide)) (kk 13 (by decide)) (kk 14 (by decide)) fun p5 H5 s5 hp5 => ?_
    have hx5 := hx4.to s5
    have s5 := s4.trans s5
    clear hx4 hp4
    refine kinds_step X hx5 hp5 (by show 15 ≤ 100; decide) (kk 15 (by decide)) (kk 16 (by decide)) (kk 17 (by decide)) fun p6 H6 s6 hp6 => ?_
    have hx6 := hx5.to s6
    have s6 := s5.trans s6
    clear hx5 hp5
    refine kinds_step X hx6 hp6 (by show 18 ≤ 100; decide) (kk 18 (by decide)) (kk 19 (by decide)) (kk 20 (by decide)) fun p7 H7 s7 hp7 => ?_
    have hx7 := hx6.to s7
    have s7 := s6.trans s7
    clear hx6 hp6
    refine kinds_step X hx7 hp7 (by show 21 ≤ 100; decide) (kk 21 (by decide)) (kk 22 (by decide)) (kk 23 (by decide)) fun p8 H8 s8 hp8 => ?_
    have hx8 := hx7.to s8
    have s8 := s7.trans s8
    clear hx7 hp7
    refine kinds_step X hx8 hp8 (by show 24 ≤ 100; decide) (kk 24 (by decide)) (kk 25 (by decide)) (kk 26 (by decide)) fun p9 H9 s9 hp9 => ?_
    have hx9 := hx8.to s9
    have s9 := s8.trans s9
    clear hx8 hp8
    refine kinds_step X hx9 hp9 (by show 27 ≤ 100; decide) (kk 27 (by decide)) (kk 28 (by decide)) (kk 29 (by decide)) fun p10 H10 s10 hp10 => ?_
    have hx10 := hx9.to s10
    have s10 := s9.trans s10
    clear hx9 hp9
    refine kinds_step X hx10 hp10 (by show 30 ≤ 100; decide) (kk 30 (by decide)) (kk 31 (by decide)) (kk 32 (by decide)) fun p11 H11 s11 hp11 => ?_
    have hx11 := hx10.to s11
    have s11 := s10.trans s11
    clear hx10 hp10
    exact ⟨_, rfl, q _ _ s11 hp11⟩
theorem ok_alone {A I : Nat → Addr} {D : Nat → FuncData} {S : Addr} {f f1 : Addr} {fd fd1 : FuncData} (U : Kit P w K mg base A I D S) (F : Fun K "_law_is_alone" "_law_is_alone" s__law_is_alone f fd) (F__law_kinds : Fun K "_law_kinds" "_law_kinds" s__law_kinds f1 fd1) (m__law_kinds : mg "_law_kinds" = some (.ref f1)) (b__law_kinds : Binds K fd1 ["_law_e"] []) (T : Txt mg) : GFn P w K mg base CX0 2 f fd ["_law_e", "_law_at"] (spAlone A) := by
  have G__law_kinds : GFn P w K mg base CX0 1 f1 fd1 ["_law_e"] (spKinds A) := ok_kinds U F__law_kinds T
  refine gfun_ok F sc__law_is_alone (fun vs H Q E h => ?_) (fun cdv B outer s H vs Q E hgu hr h => ?_)
  · obtain ⟨a, i, rfl, _⟩ := h
    rfl
  · obtain ⟨a, i, rfl, hi, hx, q⟩ := h
    have nd := sc__law_is_alone.nd
    refine ⟨_, (pss_cons (ps_if (PW.pt (pw_or (pt_cmpR (k_neD (K := K) hr.units) (pe_g G__law_kinds hgu (hr.mono (by decide)) (by rfl) m__law_kinds F__law_kinds.kp b__law_kinds .nil pass0 (pa_cons (pv 0) pa_nil)) (pe_lc (own := [("_law_k", 2)]) rfl nd (pi_range1 rfl T.range (pa_cons pe_int pa_nil)) (blkOk_by (N := N__law_is_alone) (sc := defScope s__law_is_alone) (by decide +kernel)) (fun _ _ _ _ _ => (pg_name (i := 2) nd rfl (Or.inl rfl))) (fun _ _ _ _ _ => pts_nil) (fun _ _ _ _ _ => (pe_cmpR op_eq (pv 2) (pv 1) (nomark _)))) (nomark _)) (pw_or1 (pt_not (pt_val (pe_callB (call_isV (K := K)) (by rfl) T.isinstance (by decide +kernel) (pa_cons (pv 0) (pa_cons (pe_glob (v := .ref (S)) (by rfl) (U.mS) rfl) pa_nil)))))))) (pss_one (ps_ret pe_bl)) pss_nil)
      (pss_cons (ps_if (PW.pt (pw_or (pt_val (pe_callB (call_isV (K := K)) (by rfl) T.isinstance (by decide +kernel) (pa_cons (pv 0) (pa_cons (pe_bltn (v := .ty "ValueError") (by rfl) T.ValueError (by decide +kernel) rfl) pa_nil)))) (pw_or (pt_val (pe_callB (call_isV (K := K)) (by rfl) T.isinstance (by decide +kernel) (pa_cons (pv 0) (pa_cons (pe_bltn (v := .ty "LookupError") (by rfl) T.LookupError (by decide +kernel) rfl) pa_nil)))) (pw_or1 (pt_val (pe_callB (call_isV (K := K)) (by rfl) T.isinstance (by decide +kernel) (pa_cons (pv 0) (pa_cons (pe_bltn (v := .ty "ArithmeticError") (by rfl) T.ArithmeticError (by decide +kernel) rfl) pa_nil)))))))) (pss_one (ps_ret pe_bl)) pss_nil)
      (pss_one (ps_ret (pe_and (pe_callB (call_isV (K := K)) (by rfl) T.isinstance (by decide +kernel) (pa_cons (pv 0) (pa_cons (pe_bltn (v := .ty "Exception") (by rfl) T.Exception (by decide +kernel) rfl) pa_nil))) (pe_one (pe_not (pe_callB (call_isV (K := K)) (by rfl) T.isinstance (by decide +kernel) (pa_cons (pv 0) (pa_cons (pe_bltn (v := .ty "TypeError") (by rfl) T.TypeError (by decide +kernel) rfl) pa_nil)))))))))), ?_⟩
    have X := U.x i hi
    have ks := U.ks i hi
    refine ⟨_, rfl, a, i, rfl, hi, hx, fun p H1 s1 hp => ⟨33, rfl, by decide, by decide, fun D nD => ?_⟩⟩
    refine lc_valW (walk_range (lo := 0) (n := 33)) (by omega) nD (fun j => V.bl (decide (i = j))) (fun _ _ => trivial) ?_ ?_
    · rintro j x H2 H3 hj s2 ⟨rfl, hy⟩ R hR
      obtain rfl : x = V.int (j : Int) := by
        rw [hy]
        show V.int (0 + (j : Int)) = _
        rw [Int.zero_add]
      refine ⟨wipe1 _ _ _, ?_⟩
      refine ⟨_, rfl, _, rfl, ?_⟩
      refine ⟨rfl, ?_⟩
      have e : decide (V.int (j : Int) = V.int (i : Int)) = decide (i = j) := by
        rw [decide_eq_decide]
        exact ⟨fun z => by injection z with z; omega, fun z => by rw [z]⟩
      rw [e]
      exact hR _ (Same.refl _)
    intro H2 s2 hD
    have hp2 := s2 _ _ hp
    have e1 : (List.range 33).map (fun j => V.bl (decide (i = j))) = (kindsL i).map V.bl := by
      unfold kindsL
      rw [List.map_map]
      rfl
    rw [e1] at hD
    have s02 := s1.trans s2
    have hx2 := hx.to s02
    refine ⟨.list ((kindsL i).map PyData.bool), .list ((kindsL i).map PyData.bool), .lst (SqL.of hp2) (dpBls _), .lst (SqL.of hD) (dpBls _), kinds_shaped i hi, kinds_shaped i hi, _, rfl, ifF (by rw [kinds_eqv i hi]; rfl) ?_⟩
    refine ⟨_, rfl, a, A i, .ref S, .ref S, _, rfl, hx2, X.ex, X.cl, fun _ r => r, ks.s, true, rfl, ifF rfl (nextI ?_)⟩
    refine ⟨_, rfl, a, A i, .ty "ValueError", .type "ValueError", _, rfl, hx2, X.ex, X.cl, fun _ r => r, ks.v, false, rfl, ifF rfl ?_⟩
    refine ⟨_, rfl, a, A i, .ty "LookupError", .type "LookupError", _, rfl, hx2, X.ex, X.cl, fun _ r => r, ks.l, false, rfl, ifF rfl ?_⟩
    refine ⟨_, rfl, a, A i, .ty "ArithmeticError", .type "ArithmeticError", _, rfl, hx2, X.ex, X.cl, fun _ r => r, ks.a, false, rfl, ifF rfl (nextI ?_)⟩
    refine ⟨_, rfl, a, A i, .ty "Exception", .type "Exception", _, rfl, hx2, X.ex, X.cl, fun _ r => r, ks.e, true, rfl, ifT rfl ?_⟩
    refine ⟨_, rfl, a, A i, .ty "TypeError", .type "TypeError", _, rfl, hx2, X.ex, X.cl, fun _ r => r, ks.t, false, rfl, q _ s02⟩
end
end SG

/-! One is caught. -/
namespace SG
open PySem PySem.Spec PyProof.Rows L2 TL
local macro_rules
  | `(tactic| clean_wf) => `(tactic| repeat (first | refine ⟨_, rfl, ?_⟩ | refine ⟨rfl, ?_⟩ | refine ⟨_, _, rfl, ?_⟩ | refine ⟨_, _, rfl, rfl, ?_⟩ | refine ⟨_, _, _, rfl, ?_⟩ | refine ⟨_, _, _, _, rfl, ?_⟩))
local macro_rules
  | `(tactic| exists $u:ident, $n:ident, $H:ident, $q:ident, $e:ident) => `(tactic| (refine ⟨by first | exact Nat.zero_le _ | assumption | (simp only [List.length_cons, List.length_nil]; decide), fun $u $n => ?_⟩; generalize hh : upd _ $u _ = $H; obtain ⟨$q, $e⟩ := mkq $n hh; clear hh))
local macro_rules
  | `(tactic| simp_wf) => `(tactic| first | assumption | exact upd_same | (refine (by assumption : Same _ _) _ _ ?_; simp_wf) | (refine (by assumption : Kept _ _ _ _) _ _ ?_ (by assumption) (by assumption); simp_wf))
local macro_rules
  | `(tactic| decreasing_trivial) => `(tactic| first | assumption | exact .inl (.inl (by assumption)) | (refine sameT (by assumption) ?_; decreasing_trivial))
local macro_rules
  | `(tactic| array_get_dec) => `(tactic| first | assumption | (refine CdAt.same (by assumption) ?_; array_get_dec))
structure Sz (d : PyData) : Prop where
  ls : PyData.leavesShort 340 d = true
  tz : tellZ d = true
  dp : d.depth ≤ 50
  bk : d.bulk ≤ 100
theorem szsA : ∀ {ds : List PyData}, (∀ d ∈ ds, Sz d) → tellZAll ds = true ∧ PyData.leavesShortAll 340 ds = true
  | [], _ => ⟨rfl, rfl⟩
  | d :: ds, h => by
    have z := h d List.mem_cons_self
    obtain ⟨t1, t2⟩ := szsA fun x hx => h x (List.mem_cons_of_mem d hx)
    refine ⟨?_, ?_⟩
    · show (tellZ d && tellZAll ds) = true
      rw [z.tz, t1]
      rfl
    · show (PyData.leavesShort 340 d && PyData.leavesShortAll 340 ds) = true
      rw [z.ls, t2]
      rfl
theorem szs {ds : List PyData} (h : ∀ d ∈ ds, Sz d) (few : ds.length ≤ 10) : tellZAll ds = true ∧ PyData.depthAll ds ≤ 59 ∧ (PyData.list ds).shown.length ≤ sizeLine := by
  obtain ⟨t1, t2⟩ := szsA h
  refine ⟨t1, Nat.le_trans (depth_le (b := 50) fun d hd => (h d hd).dp) (by decide), ?_⟩
  have b1 := bulk_le (b := 100) fun d hd => (h d hd).bk
  have b2 : (PyData.list ds).bulk ≤ 2000 := by
    show PyData.bulkAll ds ≤ 2000
    have := Nat.mul_le_mul_right 101 few
    omega
  have z := PyData.shown_le_bulk 340 (by decide) (.list ds) t2
  have : sizeLine = 16777216 := by decide
  have := Nat.mul_le_mul_left (340 + 2) b2
  omega
section
variable {P : Program} {w : World} {K : PySem.W.Frag} {mg : Str → Option Value} {base : Heap}
def spCaught (K : PySem.W.Frag) : Sp := fun vs H Q _ => ∃ (va : V) (da : PyData), vs = [va] ∧ Dz K H va da ∧ Sz da ∧ ∀ H2 : Hp, Same H H2 → Q (.bl true) H2
theorem ok_caught {A I : Nat → Addr} {D : Nat → FuncData} {S : Addr} {f : Addr} {fd : FuncData} (hdg : base.NoDigits) (U : Kit P w K mg base A I D S) (F : Fun K "_law_is_caught" "_law_is_caught" s__law_is_caught f fd) (T : Txt mg) : GFn P w K mg base CX0 3 f fd ["_law_a"] (spCaught K) := by
  refine gfun_ok F sc__law_is_caught (fun vs H Q E h => ?_) (fun cdv B outer s H vs Q E hgu hr h => ?_)
  · obtain ⟨a, i, rfl, _⟩ := h
    rfl
  · obtain ⟨va, da, rfl, hd, sz, q⟩ := h
    have nd := sc__law_is_caught.nd
    refine ⟨_, (pss_cons (ps_set (i := 1) nd rfl (Or.inl rfl) pe_non)
      (pss_cons (ps_try_asN (i := 2) rfl rfl nd rfl rfl takes0 (fun W pn xe tk _ => (pss_one (ps_raise rfl tk (pmk_one (U.own 26 (by decide)) (U.i 26 (by decide)) (U.t 26 (by decide)) (U.G 26 (by decide)) (hr.mono (by decide)) (U.b 26 (by decide)) pass0 (by rfl) (U.m 26 (by decide)) (pa_cons (pv 0) pa_nil)))))
        (.skip (by refine ⟨by rfl, by decide, .inl (U.m 28 (by decide))⟩) (.cons (by refine ⟨by rfl, by decide, .inl U.mS⟩) (fun a oe cls d pn hz hf => (pss_one (ps_set (i := 1) nd rfl (Or.inl rfl) (pe_lst (pa_cons (pe_xf (U.x 26 (by decide)).xf (U.no 26 (by decide)) hz hf (pv 2)) pa_nil))))) .nil)))
      (pss_one (ps_ret (pe_cmpR op_eq (pe_callB (k_reprZ (K := K) hdg hgu hr) (by rfl) T.repr (by decide +kernel) (pa_cons (pv 1) pa_nil)) (pe_callB (k_reprZ (K := K) hdg hgu hr) (by rfl) T.repr (by decide +kernel) (pa_cons (pe_lst (pa_cons (pv 0) pa_nil)) pa_nil)) (nomark _)))))), ?_⟩
    refine ⟨_, rfl, va, rfl, fun dd ndd => ⟨U.e1, true, U.e2, fun _ a na => ?_, fun z => nomatch z⟩⟩
    have s1 : Same H (upd H dd (.xd [(cA 26, va)])) := same_new ndd
    refine ⟨_, rfl, rfl, rfl, dd, _, va, rfl, upd_same, (show List.lookup (cA 26) [(cA 26, va)] = some va by simp [List.lookup]), by show 1 ≤ sizeLine; decide, fun p np => ?_⟩
    have s2 := s1.trans (same_new (o := .lst [va]) np)
    have hp : upd (upd H dd (.xd [(cA 26, va)])) p (.lst [va]) p = some (.lst [va]) := upd_same
    generalize upd (upd H dd (.xd [(cA 26, va)])) p (.lst [va]) = H2 at s2 hp ⊢
    obtain ⟨z1, z2, z3⟩ := szs (ds := [da]) (by simpa using sz) (by show 1 ≤ 10; decide)
    refine ⟨_, rfl, p, _, [da], rfl, SqL.of hp, .cons (dz_same s2 hd) .nil, z1, z2, z3, ?_⟩
    refine ⟨_, rfl, by show 1 ≤ sizeLine; decide, fun p2 np2 => ?_⟩
    have s3 := s2.trans (same_new (o := .lst [va]) np2)
    refine ⟨p2, _, [da], rfl, SqL.of upd_same, .cons (dz_same s3 hd) .nil, z1, z2, z3, rfl, ?_⟩
    rw [decide_eq_true rfl]
    exact q _ s3
end
end SG

/-! The exceptions as the law asks. -/
namespace SG
open PySem PySem.Spec PyProof.Rows L2 TL
local macro_rules
  | `(tactic| clean_wf) => `(tactic| repeat (first | refine ⟨_, rfl, ?_⟩ | refine ⟨rfl, ?_⟩ | refine ⟨_, _, rfl, ?_⟩ | refine ⟨_, _, rfl, rfl, ?_⟩ | refine ⟨_, _, _, rfl, ?_⟩ | refine ⟨_, _, _, _, rfl, ?_⟩))
local macro_rules
  | `(tactic| exists $u:ident, $n:ident, $H:ident, $q:ident, $e:ident) => `(tactic| (refine ⟨by first | exact Nat.zero_le _ | assumption | (simp only [List.length_cons, List.length_nil]; decide), fun $u $n => ?_⟩; generalize hh : upd _ $u _ = $H; obtain ⟨$q, $e⟩ := mkq $n hh; clear hh))
local macro_rules
  | `(tactic| simp_wf) => `(tactic| first | assumption | exact upd_same | (refine (by assumption : Same _ _) _ _ ?_; simp_wf) | (refine (by assumption : Kept _ _ _ _) _ _ ?_ (by assumption) (by assumption); simp_wf))
local macro_rules
  | `(tactic| decreasing_trivial) => `(tactic| first | assumption | exact .inl (.inl (by assumption)) | (refine sameT (by assumption) ?_; decreasing_trivial))
local macro_rules
  | `(tactic| array_get_dec) => `(tactic| first | assumption | (refine CdAt.same (by assumption) ?_; array_get_dec))
section
variable {P : Program} {w : World} {K : PySem.W.Frag} {mg : Str → Option Value} {base : Heap}
/-- it stays some datum, whatever is drawn -/
def Good (K : PySem.W.Frag) (d l : Addr) (H : Hp) (v : V) (dd : PyData) : Prop := ∀ H2, Kept d l H H2 → Dz K H2 v dd
set_option exponentiation.threshold 5000 in
theorem big40 : Sz (.int (10 ^ (40 : Int).toNat)) := by
  have z : Sd (.int (10 ^ (40 : Int).toNat)) := .int (by decide +kernel)
  exact ⟨z.1, z.2, by decide, by decide⟩
theorem good_lst {K : PySem.W.Frag} {d l p : Addr} {H : Hp} {xs : List V} {ds : List PyData} (e : H p = some (.lst xs)) (n : p ≠ d ∧ p ≠ l) (g : ∀ H2, Kept d l H H2 → DzAll K H2 xs ds) : Good K d l H (.ref p) (.list ds) := fun H2 k => .lst (SqL.of (k _ _ e n.1 n.2)) (g H2 k)
theorem good_tup {K : PySem.W.Frag} {d l p : Addr} {H : Hp} {xs : List V} {ds : List PyData} (e : H p = some (.tup xs)) (n : p ≠ d ∧ p ≠ l) (g : ∀ H2, Kept d l H H2 → DzAll K H2 xs ds) : Good K d l H (.ref p) (.tuple ds) := fun H2 k => .tup (.inl (.inl (k _ _ e n.1 n.2))) (g H2 k)
theorem made_x2 {H H2 : Hp} {x dx C : Addr} {fs gs : List (Str × V)} (nx : H x = none) (ndx : (upd H x (exo x C none)) dx = none) (ne : dx ≠ x) (e : upd (upd (upd (upd H x (exo x C none)) dx (exd dx fs)) x (exo x C (some dx))) dx (exd dx gs) = H2) :
    Same H H2 ∧ H2 x = some (exo x C (some dx)) ∧ H2 dx = some (exd dx gs) := by
  obtain ⟨s, h1, h2⟩ := made_x (fs := fs) nx ndx ne rfl
  subst e
  refine ⟨fun b o hb => ?_, (upd_ne ne.symm).trans h1, upd_same⟩
  have b2 : b ≠ dx := fun z => by
    have b1 : b ≠ x := ne_of_none hb nx
    rw [upd_ne ne] at ndx
    rw [z, ndx] at hb
    cases hb
  rw [upd_ne b2]
  exact s _ _ hb
/-- a pair of an exception and its class's place -/
def LoneX (A : Nat → Addr) (H : Hp) (v : V) : Prop := ∃ (t e : Addr) (k : Nat), v = .ref t ∧ H t = some (.tup [.ref e, .int (k : Int)]) ∧ k < 33 ∧ XAt H e (A k)
theorem LoneX.to {A : Nat → Addr} {H H2 : Hp} {v : V} (h : LoneX A H v) (s : Same H H2) : LoneX A H2 v := by
  obtain ⟨t, e, k, r, h1, h2, h3⟩ := h
  exact ⟨t, e, k, r, s _ _ h1, h2, h3.to s⟩
theorem exo_new {H : Hp} {y C : Addr} (n : H y = none) : Same H (upd H y (exo y C none)) ∧ XAt (upd H y (exo y C none)) y C := ⟨same_new n, .inl upd_same⟩
def spErrs : Sp := fun vs H Q _ => ∃ (d l : Addr) (c : Nat), vs = [.ref d] ∧ Deck H d l c ∧ c < 900000 ∧ ∀ H2 : Hp, Deck H2 d l (c + 2) → Kept d l H H2 → Q (.bl true) H2
theorem ok_errs {A I : Nat → Addr} {D : Nat → FuncData} {S : Addr} {f f__law_errors_one f__law_errors_two f__law_errors_three f__law_kinds f__law_is_alone f__law_is_caught f__law_draw f__law_pick : Addr} {fd fd__law_errors_one fd__law_errors_two fd__law_errors_three fd__law_kinds fd__law_is_alone fd__law_is_caught fd__law_draw fd__law_pick : FuncData} (hdg : base.NoDigits) (U : Kit P w K mg base A I D S) (F : Fun K "_law_errors_right" "_law_errors_right" s__law_errors_right f fd) (F__law_errors_one : Fun K "_law_errors_one" "_law_errors_one" s__law_errors_one f__law_errors_one fd__law_errors_one) (m__law_errors_one : mg "_law_errors_one" = some (.ref f__law_errors_one)) (b__law_errors_one : Binds K fd__law_errors_one ["_law_a", "_law_b"] []) (F__law_errors_two : Fun K "_law_errors_two" "_law_errors_two" s__law_errors_two f__law_errors_two fd__law_errors_two) (m__law_errors_two : mg "_law_errors_two" = some (.ref f__law_errors_two)) (b__law_errors_two : Binds K fd__law_errors_two ["_law_a", "_law_b"] []) (F__law_errors_three : Fun K "_law_errors_three" "_law_errors_three" s__law_errors_three f__law_errors_three fd__law_errors_three) (m__law_errors_three : mg "_law_errors_three" = some (.ref f__law_errors_three)) (b__law_errors_three : Binds K fd__law_errors_three ["_law_a", "_law_b"] []) (F__law_kinds : Fun K "_law_kinds" "_law_kinds" s__law_kinds f__law_kinds fd__law_kinds) (m__law_kinds : mg "_law_kinds" = some (.ref f__law_kinds)) (b__law_kinds : Binds K fd__law_kinds ["_law_e"] []) (F__law_is_alone : Fun K "_law_is_alone" "_law_is_alone" s__law_is_alone f__law_is_alone fd__law_is_alone) (m__law_is_alone : mg "_law_is_alone" = some (.ref f__law_is_alone)) (b__law_is_alone : Binds K fd__law_is_alone ["_law_e", "_law_at"] []) (F__law_is_caught : Fun K "_law_is_caught" "_law_is_caught" s__law_is_caught f__law_is_caught fd__law_is_caught) (m__law_is_caught : mg "_law_is_caught" = some (.ref f__law_is_caught)) (b__law_is_caught : Binds K fd__law_is_caught ["_law_a"] []) (F__law_draw : Fun K "_law_draw" "_law_draw" s__law_draw f__law_draw fd__law_draw) (m__law_draw : mg "_law_draw" = some (.ref f__law_draw)) (b__law_draw : Binds K fd__law_draw ["_law_deck_here", "_law_below"] []) (F__law_pick : Fun K "_law_pick" "_law_pick" s__law_pick f__law_pick fd__law_pick) (m__law_pick : mg "_law_pick" = some (.ref f__law_pick)) (b__law_pick : Binds K fd__law_pick ["_law_deck_here", "_law_some"] []) (T : Txt mg) : GFn P w K mg base CX0 4 f fd ["_law_deck_here"] spErrs := by
  have G__law_errors_one : GFn P w K mg base CX0 3 f__law_errors_one fd__law_errors_one ["_law_a", "_law_b"] (spRows A 0) := ok_rows_one U F__law_errors_one
  have G__law_errors_two : GFn P w K mg base CX0 3 f__law_errors_two fd__law_errors_two ["_law_a", "_law_b"] (spRows A 10) := ok_rows_two U F__law_errors_two
  have G__law_errors_three : GFn P w K mg base CX0 3 f__law_errors_three fd__law_errors_three ["_law_a", "_law_b"] (spRows A 20) := ok_rows_three U F__law_errors_three
  have G__law_is_alone : GFn P w K mg base CX0 2 f__law_is_alone fd__law_is_alone ["_law_e", "_law_at"] (spAlone A) := ok_alone U F__law_is_alone F__law_kinds m__law_kinds b__law_kinds T
  have G__law_is_caught : GFn P w K mg base CX0 3 f__law_is_caught fd__law_is_caught ["_law_a"] (spCaught K) := ok_caught hdg U F__law_is_caught T
  have G__law_pick := ok_pick (P := P) (w := w) (base := base) F__law_pick F__law_draw m__law_draw b__law_draw T
  refine gfun_ok F sc__law_errors_right (fun vs H Q E h => ?_) (fun cdv B outer s H vs Q E hgu hr h => ?_)
  · obtain ⟨d, l, c, rfl, _⟩ := h
    rfl
  · obtain ⟨d, l, c, rfl, hD, hc, q⟩ := h
    have nd := sc__law_errors_right.nd
    refine ⟨_, (pss_cons (ps_set (i := 1) nd rfl (Or.inl rfl) (pe_lst (pa_cons pe_non (pa_cons pe_bl (pa_cons pe_int (pa_cons pe_str (pa_cons pe_str (pa_cons (pe_tup (pa_cons pe_int (pa_cons pe_str pa_nil))) (pa_cons (pe_lst (pa_cons pe_int pa_nil)) (pa_cons pe_dnewK (pa_cons (pe_disp (pps_cons pe_str (pe_tup (pa_cons pe_int pa_nil)) pps_nil) (by rfl) (by rfl) (fun z => by cases z) (by decide)) (pa_cons (pe_op op_pow pe_int pe_int) (pa_cons (pe_tup (pa_cons pe_str (pa_cons (pe_lst (pa_cons pe_str pa_nil)) pa_nil))) (pa_cons (pe_un un_neg pe_int) (pa_cons pe_str pa_nil)))))))))))))))
      (pss_cons (ps_par (i := 2) (j := 3) rfl nd rfl rfl (by decide) rfl rfl (pa_cons (pe_g G__law_pick hgu (hr.mono (by decide)) (by rfl) m__law_pick F__law_pick.kp b__law_pick .nil pass0 (pa_cons (pv 0) (pa_cons (pv 1) pa_nil))) (pa_cons (pe_g G__law_pick hgu (hr.mono (by decide)) (by rfl) m__law_pick F__law_pick.kp b__law_pick .nil pass0 (pa_cons (pv 0) (pa_cons (pv 1) pa_nil))) pa_nil)) (by rfl))
      (pss_cons (ps_set (i := 4) nd rfl (Or.inl rfl) (pe_op op_cat (pe_op op_cat (pe_g G__law_errors_one hgu (hr.mono (by decide)) (by rfl) m__law_errors_one F__law_errors_one.kp b__law_errors_one .nil pass0 (pa_cons (pv 2) (pa_cons (pv 3) pa_nil))) (pe_g G__law_errors_two hgu (hr.mono (by decide)) (by rfl) m__law_errors_two F__law_errors_two.kp b__law_errors_two .nil pass0 (pa_cons (pv 2) (pa_cons (pv 3) pa_nil)))) (pe_g G__law_errors_three hgu (hr.mono (by decide)) (by rfl) m__law_errors_three F__law_errors_three.kp b__law_errors_three .nil pass0 (pa_cons (pv 2) (pa_cons (pv 3) pa_nil)))))
      (pss_cons (ps_for PassesOwn.never rfl (k_enum (K := K) (by rfl) T.enumerate (pa_cons (pv 4) pa_nil)) (k_tg (K := K) (n := 2) rfl (pgs_cons (pg_name (i := 5) nd rfl (Or.inl rfl)) (pgs_cons (k_tg (K := K) (n := 4) rfl (pgs_cons (pg_name (i := 6) nd rfl (Or.inl rfl)) (pgs_cons (pg_name (i := 7) nd rfl (Or.inl rfl)) (pgs_cons (pg_name (i := 8) nd rfl (Or.inl rfl)) (pgs_cons (pg_name (i := 9) nd rfl (Or.inl rfl)) pgs_nil))))) pgs_nil)))
        (pss_one (ps_if (PW.pt (pw_or (pt_cmpR op_ne (pe_callB (k_reprZ (K := K) hdg hgu hr) (by rfl) T.repr (by decide +kernel) (pa_cons (pe_lst (pa_cons (pv 8) (pa_cons (pv 9) pa_nil))) pa_nil)) (pe_callB (k_reprZ (K := K) hdg hgu hr) (by rfl) T.repr (by decide +kernel) (pa_cons (pe_lst (pa_cons (pv 2) (pa_cons (pv 3) pa_nil))) pa_nil)) (nomark _)) (pw_or (pt_not (pt_val (pe_g G__law_is_alone hgu (hr.mono (by decide)) (by rfl) m__law_is_alone F__law_is_alone.kp b__law_is_alone .nil pass0 (pa_cons (pv 6) (pa_cons (pv 5) pa_nil))))) (pw_or1 (pt_not (pt_val (pe_g G__law_is_alone hgu (hr.mono (by decide)) (by rfl) m__law_is_alone F__law_is_alone.kp b__law_is_alone .nil pass0 (pa_cons (pv 7) (pa_cons (pv 5) pa_nil))))))))) (pss_one (ps_ret pe_bl)) pss_nil)))
      (pss_cons (ps_par (i := 6) (j := 7) rfl nd rfl rfl (by decide) rfl rfl (pa_cons (pe_mkX (U.own 30 (by decide)) (U.i 30 (by decide)) (U.t 30 (by decide)) U.hG (hr.mono (by decide)) (by rfl) (U.m 30 (by decide)) U.hb (pa_cons (pv 2) (pa_cons (pv 3) pa_nil))) (pa_cons (pe_mkXK (U.own 30 (by decide)) (U.i 30 (by decide)) (U.t 30 (by decide)) U.hG (hr.mono (by decide)) (by rfl) (U.m 30 (by decide)) U.hkb (pk_cons (pv 2) (pk_cons (pv 3) pk_nil))) pa_nil)) (by rfl))
      (pss_cons (ps_if (pt_cmpR op_ne (pe_callB (k_reprZ (K := K) hdg hgu hr) (by rfl) T.repr (by decide +kernel) (pa_cons (pe_lst (pa_cons (pe_xv (pv 6)) (pa_cons (pe_xv (pv 6)) (pa_cons (pe_xv (pv 7)) (pa_cons (pe_xv (pv 7)) pa_nil))))) pa_nil)) (pe_callB (k_reprZ (K := K) hdg hgu hr) (by rfl) T.repr (by decide +kernel) (pa_cons (pe_lst (pa_cons (pv 2) (pa_cons (pv 3) (pa_cons (pv 3) (pa_cons (pv 2) pa_nil))))) pa_nil)) (nomark _)) (pss_one (ps_ret pe_bl)) pss_nil)
      (pss_cons (ps_set (i := 10) nd rfl (Or.inl rfl) (pe_lst (pa_cons (pe_tup (pa_cons (pv 6) (pa_cons pe_int pa_nil))) (pa_cons (pe_tup (pa_cons (pv 7) (pa_cons pe_int pa_nil))) (pa_cons (pe_tup (pa_cons (pe_mkX0 PySem.F.excBase_Exception (U.q 31 (by decide)) (U.k 31 (by decide)) (by rfl) (U.m 31 (by decide))) (pa_cons pe_int pa_nil))) (pa_cons (pe_tup (pa_cons (pe_mkX0 PySem.F.excBase_Exception (U.q 32 (by decide)) (U.k 32 (by decide)) (by rfl) (U.m 32 (by decide))) (pa_cons pe_int pa_nil))) pa_nil))))))
      (pss_one (ps_ret (pe_and (pe_cmpR (k_eqE (K := K) hr.units) (pe_lc (own := [("_law_e", 11), ("_law_at", 5)]) rfl nd (pi_list (pv 10)) (blkOk_by (N := N__law_errors_right) (sc := defScope s__law_errors_right) (by decide +kernel)) (fun _ _ _ _ _ => (k_tg (K := K) (n := 2) rfl (pgs_cons (pg_name (i := 11) nd rfl (Or.inl rfl)) (pgs_cons (pg_name (i := 5) nd rfl (Or.inl rfl)) pgs_nil)))) (fun _ _ _ _ _ => (pts_one (pt_not (pt_val (pe_g G__law_is_alone hgu (hr.mono (by decide)) (by rfl) m__law_is_alone F__law_is_alone.kp b__law_is_alone .nil pass0 (pa_cons (pv 11) (pa_cons (pv 5) pa_nil))))))) (fun _ _ _ _ _ => (pv 11))) (pe_lst pa_nil) (nomark _)) (pe_one (pe_g G__law_is_caught hgu (hr.mono (by decide)) (by rfl) m__law_is_caught F__law_is_caught.kp b__law_is_caught .nil pass0 (pa_cons (pv 2) pa_nil))))))))))))), ?_⟩
    refine ⟨by show 2 ≤ sizeLine; decide, fun t1 nt1 => ?_⟩
    have s1 : Same H (upd H t1 (.tup [.int 1, .str "a"])) := same_new nt1
    have ht1 : upd H t1 (.tup [.int 1, .str "a"]) t1 = some (.tup [.int 1, .str "a"]) := upd_same
    generalize upd H t1 (.tup [.int 1, .str "a"]) = H1 at s1 ht1 ⊢
    refine ⟨by show 1 ≤ sizeLine; decide, fun l1 nl1 => ?_⟩
    have s2 : Same H1 (upd H1 l1 (.lst [.int 1])) := same_new nl1
    have hl1 : upd H1 l1 (.lst [.int 1]) l1 = some (.lst [.int 1]) := upd_same
    generalize upd H1 l1 (.lst [.int 1]) = H2 at s2 hl1 ⊢
    refine fun d1 nd1 => ?_
    have s3 : Same H2 (upd H2 d1 (.dK [])) := same_new nd1
    have hd1 : upd H2 d1 (.dK []) d1 = some (.dK []) := upd_same
    generalize upd H2 d1 (.dK []) = H3 at s3 hd1 ⊢
    refine fun d2 nd2 => ⟨by show 1 ≤ sizeLine; decide, fun t3 nt3 => ?_⟩
    have ne1 : d2 ≠ t3 := fun z => by rw [z, upd_same] at nt3; cases nt3
    refine ⟨?_, [(Sum.inr (Str.ofString "a"), V.ref t3)], rfl, (by show 1 ≤ 15; decide), ?_⟩
    · rw [upd_ne ne1, upd_same]
    have s4 : Same H3 (upd (upd (upd H3 d2 (.dK [])) t3 (.tup [.int 1])) d2 (.dK (mergeK [] [(Sum.inr (Str.ofString "a"), V.ref t3)]))) := fun b o e => by
      have b1 : b ≠ d2 := ne_of_none e nd2
      have b2 : b ≠ t3 := fun z => by
        rw [← z, upd_ne b1, e] at nt3
        cases nt3
      rw [upd_ne b1, upd_ne b2, upd_ne b1]
      exact e
    have hd2 : (upd (upd (upd H3 d2 (.dK [])) t3 (.tup [.int 1])) d2 (.dK (mergeK [] [(Sum.inr (Str.ofString "a"), V.ref t3)]))) d2 = some (.dK [(Sum.inr (Str.ofString "a"), V.ref t3)]) := upd_same
    have ht3 : (upd (upd (upd H3 d2 (.dK [])) t3 (.tup [.int 1])) d2 (.dK (mergeK [] [(Sum.inr (Str.ofString "a"), V.ref t3)]))) t3 = some (.tup [.int 1]) := by rw [upd_ne ne1.symm, upd_same]
    have nd2H : H3 d2 = none := nd2
    have nt3H : H3 t3 = none := by rw [upd_ne ne1.symm] at nt3; exact nt3
    generalize (upd (upd (upd H3 d2 (.dK [])) t3 (.tup [.int 1])) d2 (.dK (mergeK [] [(Sum.inr (Str.ofString "a"), V.ref t3)]))) = H4 at s4 hd2 ht3 ⊢
    refine ⟨_, _, rfl, rfl, ⟨by decide, by decide, by decide⟩, ?_⟩
    refine ⟨by show 1 ≤ sizeLine; decide, fun l2 nl2 => ?_⟩
    have s5 : Same H4 (upd H4 l2 (.lst [.str "y"])) := same_new nl2
    have hl2 : upd H4 l2 (.lst [.str "y"]) l2 = some (.lst [.str "y"]) := upd_same
    generalize upd H4 l2 (.lst [.str "y"]) = H5 at s5 hl2 ⊢
    refine ⟨by show 2 ≤ sizeLine; decide, fun t2 nt2 => ?_⟩
    have s6 : Same H5 (upd H5 t2 (.tup [.str "x", .ref l2])) := same_new nt2
    have ht2 : upd H5 t2 (.tup [.str "x", .ref l2]) t2 = some (.tup [.str "x", .ref l2]) := upd_same
    generalize upd H5 t2 (.tup [.str "x", .ref l2]) = H6 at s6 ht2 ⊢
    refine ⟨_, rfl, by show 13 ≤ sizeLine; decide, fun ps nps => ?_⟩
    dsimp only
    have s7 : Same H6 (upd H6 ps (.lst [.non, .bl true, .int 0, .str "", .str "part", .ref t1, .ref l1, .ref d1, .ref d2, .int (10 ^ (40 : Int).toNat), .ref t2, .int (-1), .str "moves"])) := same_new nps
    have hps : upd H6 ps (.lst [.non, .bl true, .int 0, .str "", .str "part", .ref t1, .ref l1, .ref d1, .ref d2, .int (10 ^ (40 : Int).toNat), .ref t2, .int (-1), .str "moves"]) ps = some (.lst [.non, .bl true, .int 0, .str "", .str "part", .ref t1, .ref l1, .ref d1, .ref d2, .int (10 ^ (40 : Int).toNat), .ref t2, .int (-1), .str "moves"]) := upd_same
    generalize upd H6 ps (.lst [.non, .bl true, .int 0, .str "", .str "part", .ref t1, .ref l1, .ref d1, .ref d2, .int (10 ^ (40 : Int).toNat), .ref t2, .int (-1), .str "moves"]) = H7 at s7 hps ⊢
    have e6 := s7
    have e5 := s6.trans e6
    have e4 := s5.trans e5
    have e3 := s4.trans e4
    have e2 := s3.trans e3
    have e1 := s2.trans e2
    have e0 := s1.trans e1
    have g1 : Good K d l H7 (.ref t1) (.tuple [.int 1, .str "a"]) := good_tup (e1 _ _ ht1) (hD.ne nt1) fun H2 k => .cons (.int _) (.cons (.str _) .nil)
    have g2 : Good K d l H7 (.ref l1) (.list [.int 1]) := good_lst (e2 _ _ hl1) (hD.ne (s1.free nl1)) fun H2 k => .cons (.int _) .nil
    have m3 := hD.ne ((s1.trans s2).free nd1)
    have g3 : Good K d l H7 (.ref d1) (.dict []) := fun H2 k => .dct (k _ _ (e3 _ _ hd1) m3.1 m3.2)
    have m4 := hD.ne ((s1.trans (s2.trans s3)).free nd2H)
    have g5 : Good K d l H7 (.ref t3) (.tuple [.int 1]) := good_tup (e4 _ _ ht3) (hD.ne ((s1.trans (s2.trans s3)).free nt3H)) fun H2 k => .cons (.int _) .nil
    have g4 : Good K d l H7 (.ref d2) (.dict [(.str "a", .tuple [.int 1])]) := fun H2 k => .one (k _ _ (e4 _ _ hd2) m4.1 m4.2) (g5 H2 k)
    have s04 := s1.trans (s2.trans (s3.trans s4))
    have g7 : Good K d l H7 (.ref l2) (.list [.str "y"]) := good_lst (e5 _ _ hl2) (hD.ne (s04.free nl2)) fun H2 k => .cons (.str _) .nil
    have g6 : Good K d l H7 (.ref t2) (.tuple [.str "x", .list [.str "y"]]) := good_tup (e6 _ _ ht2) (hD.ne ((s04.trans s5).free nt2)) fun H2 k => .cons (.str _) (.cons (g7 H2 k) .nil)
    have psn := hD.ne ((s04.trans (s5.trans s6)).free nps)
    have all : ∀ x ∈ [V.non, V.bl true, V.int 0, V.str "", V.str "part", V.ref t1, V.ref l1, V.ref d1, V.ref d2, V.int (10 ^ (40 : Int).toNat), V.ref t2, V.int (-1), V.str "moves"], ∃ dd, Sz dd ∧ Good K d l H7 x dd := by
      have nil : ∀ x ∈ ([] : List V), ∃ dd, Sz dd ∧ Good K d l H7 x dd := fun x hx => nomatch hx
      have ad : ∀ {x : V} {xs : List V} (dd : PyData), Sz dd → Good K d l H7 x dd → (∀ x ∈ xs, ∃ dd, Sz dd ∧ Good K d l H7 x dd) → ∀ y ∈ x :: xs, ∃ dd, Sz dd ∧ Good K d l H7 y dd := fun dd z g r => List.forall_mem_cons.mpr ⟨⟨dd, z, g⟩, r⟩
      exact ad .none ⟨rfl, rfl, by decide, by decide⟩ (fun _ _ => .non) (ad (.bool true) ⟨rfl, rfl, by decide, by decide⟩ (fun _ _ => .bl _) (ad (.int 0) ⟨by decide +kernel, by decide +kernel, by decide, by decide⟩ (fun _ _ => .int _)
        (ad (.str "") ⟨by decide +kernel, rfl, by decide, by decide⟩ (fun _ _ => .str _) (ad (.str "part") ⟨by decide +kernel, rfl, by decide, by decide⟩ (fun _ _ => .str _) (ad _ ⟨by decide +kernel, by decide +kernel, by decide, by decide⟩ g1
        (ad _ ⟨by decide +kernel, by decide +kernel, by decide, by decide⟩ g2 (ad _ ⟨by decide +kernel, by decide +kernel, by decide, by decide⟩ g3 (ad _ ⟨by decide +kernel, by decide +kernel, by decide, by decide⟩ g4
        (ad _ big40 (fun _ _ => .int _) (ad _ ⟨by decide +kernel, by decide +kernel, by decide, by decide⟩ g6 (ad (.int (-1)) ⟨by decide +kernel, by decide +kernel, by decide, by decide⟩ (fun _ _ => .int _) (ad (.str "moves") ⟨by decide +kernel, rfl, by decide, by decide⟩ (fun _ _ => .str _) nil))))))))))))
    generalize hxs : [V.non, V.bl true, V.int 0, V.str "", V.str "part", V.ref t1, V.ref l1, V.ref d1, V.ref d2, V.int (10 ^ (40 : Int).toNat), V.ref t2, V.int (-1), V.str "moves"] = xs at hps all
    have ne : xs ≠ [] ∧ xs.length ≤ 1000 := by
      rw [← hxs]
      exact ⟨by simp, by simp⟩
    have D7 := hD.same e0
    clear hxs g1 g2 g3 g4 g5 g6 g7 m3 m4 e1 e2 e3 e4 e5 e6 s1 s2 s3 s4 s5 s6 s7 s04 ht1 hl1 hd1 hd2 ht3 hl2 ht2 nt1 nl1 nd1 nd2 nd2H nt3 nt3H nl2 nt2 nps
    refine ⟨_, rfl, _, rfl, d, l, c, D7, by omega, .inl ⟨ps, xs, rfl, SqL.of hps, psn.2, ne.1, ne.2, fun va H8 hva D8 k8 => ?_⟩⟩
    obtain ⟨da, za, ga⟩ := all _ hva
    refine ⟨_, rfl, _, rfl, d, l, c + 1, D8, by omega, .inl ⟨ps, xs, rfl, k8.lst D7 psn.2 (SqL.of hps), psn.2, ne.1, ne.2, fun vb H9 hvb D9 k9 => ?_⟩⟩
    obtain ⟨db, zb, gb⟩ := all _ hvb
    have ha : Dz K H9 va da := ga _ (k8.trans k9)
    have hb : Dz K H9 vb db := gb _ (k8.trans k9)
    have k09 : Kept d l H H9 := (Kept.of e0).trans (k8.trans k9)
    clear all ga gb hva hvb k8 k9 e0 D8 D7 hps
    refine ⟨_, _, rfl, ?_⟩
    refine ⟨_, rfl, _, rfl, va, vb, rfl, fun p1 r1 HA sA np1 hp1 n1 rows1 => ⟨_, rfl, _, rfl, va, vb, rfl, fun p2 r2 HB sB np2 hp2 n2 rows2 => ?_⟩⟩
    refine ⟨p1, p2, r1, r2, rfl, rfl, sB _ _ hp1, hp2, Nat.le_of_lt (small1000 (by omega)), fun p3 np3 => ?_⟩
    have sC := (sA.trans sB).trans (same_new (o := .lst (r1 ++ r2)) np3)
    have rows3 : RowsX A (upd HB p3 (.lst (r1 ++ r2))) va vb 0 (r1 ++ r2) := RowsX.add ((rows1.to sB).to (same_new np3)) (by rw [n1]; exact rows2.to (same_new np3))
    have hp3 : upd HB p3 (.lst (r1 ++ r2)) p3 = some (.lst (r1 ++ r2)) := upd_same
    generalize upd HB p3 (.lst (r1 ++ r2)) = HC at sC rows3 hp3 ⊢
    refine ⟨_, rfl, _, rfl, va, vb, rfl, fun p4 r4 HD sD np4 hp4 n4 rows4 => ?_⟩
    refine ⟨p3, p4, r1 ++ r2, r4, rfl, rfl, sD _ _ hp3, hp4, Nat.le_of_lt (small1000 (by rw [List.length_append]; omega)), fun rp nrp => ?_⟩
    have sE := (sC.trans sD).trans (same_new (o := .lst (r1 ++ r2 ++ r4)) nrp)
    have rows5 : RowsX A (upd HD rp (.lst (r1 ++ r2 ++ r4))) va vb 0 (r1 ++ r2 ++ r4) := RowsX.add ((rows3.to sD).to (same_new nrp)) (by rw [List.length_append, n1, n2]; exact rows4.to (same_new nrp))
    have hrp : upd HD rp (.lst (r1 ++ r2 ++ r4)) rp = some (.lst (r1 ++ r2 ++ r4)) := upd_same
    have nrows : (r1 ++ r2 ++ r4).length = 30 := by rw [List.length_append, List.length_append]; omega
    generalize upd HD rp (.lst (r1 ++ r2 ++ r4)) = HE at sE rows5 hrp ⊢
    generalize r1 ++ r2 ++ r4 = rs at rows5 hrp nrows
    have haE := dz_same sE ha
    have hbE := dz_same sE hb
    have DE := D9.same sE
    have kE := k09.trans (Kept.of sE)
    clear rows1 rows2 rows3 rows4 sA sB sC sD sE ha hb D9 k09 np1 np2 np3 np4 nrp hp1 hp2 hp3 hp4 n1 n2 n4
    refine ⟨_, rfl, rp, rs, rfl, SqL.of hrp, for_it (walk_enum (xs := rs)) (fun i σ Hi => ∃ o5 o6 o7 o8 o9 : Option V, σ = [some (.ref d), some (.ref ps), some va, some vb, some (.ref rp), o5, o6, o7, o8, o9, none, none] ∧ Same HE Hi) ⟨none, none, none, none, none, rfl, Same.refl _⟩ ?_ ?_ ?_⟩
    · rintro i σ Hi hi ⟨o5, o6, o7, o8, o9, rfl, s⟩
      exact SqL.of (s _ _ hrp)
    · rintro i x σ Hi Hj hi ⟨o5, o6, o7, o8, o9, rfl, s⟩ ⟨T, x1, y1, rfl, nT, rfl, e1, e2⟩
      cases e1
      have row := (rows5.get e2).to (s.trans (same_new (o := .tup [.int (i : Int), y1]) nT))
      rw [Nat.zero_add] at row
      obtain ⟨t, x, y, dx, dy, rfl, ht, hx, hdx, hy, hdy⟩ := row
      have hT : upd Hi T (.tup [.int (i : Int), .ref t]) T = some (.tup [.int (i : Int), .ref t]) := upd_same
      have s1 := s.trans (same_new (o := .tup [.int (i : Int), .ref t]) nT)
      generalize upd Hi T (.tup [.int (i : Int), .ref t]) = H1 at ht hx hdx hy hdy hT s1 ⊢
      refine ⟨T, _, rfl, .inl (.inl hT), rfl, _, _, rfl, _, _, rfl, t, _, rfl, .inl (.inl ht), rfl, ?_⟩
      refine ⟨_, _, rfl, _, _, rfl, _, _, rfl, _, _, rfl, rfl, rfl, ?_⟩
      obtain ⟨z1, z2, z3⟩ := szs (ds := [da, db]) (by simpa using ⟨za, zb⟩) (by show 2 ≤ 10; decide)
      refine ⟨_, rfl, _, rfl, by show 2 ≤ sizeLine; decide, fun p5 np5 => ?_⟩
      have s2 := s1.trans (same_new (o := .lst [va, vb]) np5)
      have hx2 := (same_new (o := .lst [va, vb]) np5) _ _ hx
      have hdx2 := (same_new (o := .lst [va, vb]) np5) _ _ hdx
      have hy2 := (same_new (o := .lst [va, vb]) np5) _ _ hy
      have hdy2 := (same_new (o := .lst [va, vb]) np5) _ _ hdy
      refine ⟨p5, _, [da, db], rfl, SqL.of upd_same, .cons (dz_same s2 haE) (.cons (dz_same s2 hbE) .nil), z1, z2, z3, ?_⟩
      generalize upd H1 p5 (.lst [va, vb]) = H2 at s2 hx2 hdx2 hy2 hdy2 ⊢
      refine ⟨_, rfl, _, rfl, by show 2 ≤ sizeLine; decide, fun p6 np6 => ?_⟩
      have s3 := s2.trans (same_new (o := .lst [va, vb]) np6)
      have ax := XAt.to (.inr ⟨dx, _, hx2, hdx2⟩ : XAt H2 x (A i)) (same_new (o := .lst [va, vb]) np6)
      have ay := XAt.to (.inr ⟨dy, _, hy2, hdy2⟩ : XAt H2 y (A i)) (same_new (o := .lst [va, vb]) np6)
      refine ⟨p6, _, [da, db], rfl, SqL.of upd_same, .cons (dz_same s3 haE) (.cons (dz_same s3 hbE) .nil), z1, z2, z3, rfl, _, rfl, ifF (by simp) ?_⟩
      generalize upd H2 p6 (.lst [va, vb]) = H3 at s3 ax ay ⊢
      have hi33 : i < 33 := by omega
      refine ⟨_, rfl, _, rfl, x, i, rfl, hi33, ax, fun H4 s4 => ⟨true, rfl, ifF rfl ?_⟩⟩
      refine ⟨_, rfl, _, rfl, y, i, rfl, hi33, ay.to s4, fun H5 s5 => ⟨true, rfl, ifF rfl ⟨_, _, _, _, _, rfl, s3.trans (s4.trans s5)⟩⟩⟩
    · rintro σ Hi ⟨o5, o6, o7, o8, o9, rfl, s⟩
      have haF := dz_same s haE
      have hbF := dz_same s hbE
      have DF := DE.same s
      have kF := kE.trans (Kept.of s)
      clear rows5 hrp haE hbE DE kE s nrows
      refine ⟨_, rfl, _, rfl, by show 2 ≤ 1000; decide, fun x nx => ?_⟩
      refine ⟨x, va, vb, rfl, upd_same, fun dx ndx hne => ⟨rfl, ?_⟩⟩
      obtain ⟨s1, hx, hdx⟩ := made_x2 (fs := [("one", va)]) (gs := [("other", vb), ("one", va)]) nx ndx hne rfl
      generalize upd (upd (upd (upd Hi x (exo x (A 30) none)) dx (exd dx [("one", va)])) x (exo x (A 30) (some dx))) dx (exd dx [("other", vb), ("one", va)]) = H1 at s1 hx hdx ⊢
      refine ⟨_, rfl, _, rfl, fun y ny => ?_⟩
      refine ⟨y, vb, va, rfl, upd_same, fun dy ndy hny => ⟨rfl, ?_⟩⟩
      obtain ⟨s2, hy, hdy⟩ := made_x2 (fs := [("one", vb)]) (gs := [("other", va), ("one", vb)]) ny ndy hny rfl
      generalize upd (upd (upd (upd H1 y (exo y (A 30) none)) dy (exd dy [("one", vb)])) y (exo y (A 30) (some dy))) dy (exd dy [("other", va), ("one", vb)]) = H2 at s2 hy hdy ⊢
      refine ⟨_, _, rfl, ?_⟩
      have X := U.x 30 (by decide)
      have hx2 := s2 _ _ hx
      have hdx2 := s2 _ _ hdx
      refine ⟨_, rfl, x, A 30, dx, _, va, rfl, X.xf, U.h1, hx2, hdx2, rfl, ?_⟩
      refine ⟨_, rfl, x, A 30, dx, _, vb, rfl, X.xf, U.h2, hx2, hdx2, rfl, ?_⟩
      refine ⟨_, rfl, y, A 30, dy, _, vb, rfl, X.xf, U.h1, hy, hdy, rfl, ?_⟩
      refine ⟨_, rfl, y, A 30, dy, _, va, rfl, X.xf, U.h2, hy, hdy, rfl, ?_⟩
      have haG := dz_same (s1.trans s2) haF
      have hbG := dz_same (s1.trans s2) hbF
      have DG := DF.same (s1.trans s2)
      have kG := kF.trans (Kept.of (s1.trans s2))
      have ax : XAt H2 x (A 30) := .inr ⟨dx, _, hx2, hdx2⟩
      have ay : XAt H2 y (A 30) := .inr ⟨dy, _, hy, hdy⟩
      clear haF hbF DF kF s1 s2 hx hdx hx2 hdx2 hy hdy nx ndx ny ndy hne hny
      obtain ⟨z1, z2, z3⟩ := szs (ds := [da, db, db, da]) (List.forall_mem_cons.mpr ⟨za, List.forall_mem_cons.mpr ⟨zb, List.forall_mem_cons.mpr ⟨zb, List.forall_mem_cons.mpr ⟨za, fun _ z => nomatch z⟩⟩⟩⟩) (by show 4 ≤ 10; decide)
      refine ⟨by show 4 ≤ sizeLine; decide, fun p5 np5 => ?_⟩
      have s2 := same_new (o := .lst [va, vb, vb, va]) np5
      have h2a := dz_same s2 haG
      have h2b := dz_same s2 hbG
      refine ⟨p5, _, [da, db, db, da], rfl, SqL.of upd_same, .cons h2a (.cons h2b (.cons h2b (.cons h2a .nil))), z1, z2, z3, ?_⟩
      generalize upd H2 p5 (.lst [va, vb, vb, va]) = H3 at s2 h2a h2b ⊢
      refine ⟨_, rfl, _, rfl, _, rfl, _, rfl, by show 4 ≤ sizeLine; decide, fun p6 np6 => ?_⟩
      have s3 := same_new (o := .lst [va, vb, vb, va]) np6
      have h3a := dz_same s3 h2a
      have h3b := dz_same s3 h2b
      refine ⟨p6, _, [da, db, db, da], rfl, SqL.of upd_same, .cons h3a (.cons h3b (.cons h3b (.cons h3a .nil))), z1, z2, z3, rfl, _, rfl, ifF (by simp) (nextI ?_)⟩
      have ax3 := ax.to (s2.trans s3)
      have ay3 := ay.to (s2.trans s3)
      have D3 := DG.same (s2.trans s3)
      have k3 := kG.trans (Kept.of (s2.trans s3))
      generalize upd H3 p6 (.lst [va, vb, vb, va]) = H4 at ax3 ay3 D3 k3 h3a h3b ⊢
      clear z1 z2 z3 h2a h2b haG hbG DG kG ax ay s2 s3 np5 np6
      -- the lone ones
      refine ⟨_, rfl, by show 2 ≤ sizeLine; decide, fun q1 nq1 => ?_⟩
      have s1 := same_new (o := .tup [.ref x, .int 30]) nq1
      have m1 : LoneX A (upd H4 q1 (.tup [.ref x, .int 30])) (.ref q1) := ⟨q1, x, 30, rfl, upd_same, by decide, ax3.to s1⟩
      have ay4 := ay3.to s1
      generalize upd H4 q1 (.tup [.ref x, .int 30]) = H5 at s1 m1 ay4 ⊢
      refine ⟨_, rfl, by show 2 ≤ sizeLine; decide, fun q2 nq2 => ?_⟩
      have s2 := same_new (o := .tup [.ref y, .int 30]) nq2
      have m2 : LoneX A (upd H5 q2 (.tup [.ref y, .int 30])) (.ref q2) := ⟨q2, y, 30, rfl, upd_same, by decide, ay4.to s2⟩
      have m1 := m1.to s2
      generalize upd H5 q2 (.tup [.ref y, .int 30]) = H6 at s2 m1 m2 ⊢
      refine fun u nu => ⟨by show 2 ≤ sizeLine; decide, fun q3 nq3 => ?_⟩
      obtain ⟨s3, au⟩ := exo_new (C := A 31) nu
      have t3 := same_new (o := .tup [.ref u, .int 31]) nq3
      have m3 : LoneX A (upd (upd H6 u (exo u (A 31) none)) q3 (.tup [.ref u, .int 31])) (.ref q3) := ⟨q3, u, 31, rfl, upd_same, by decide, au.to t3⟩
      have m1 := (m1.to s3).to t3
      have m2 := (m2.to s3).to t3
      have s3 := s3.trans t3
      generalize upd (upd H6 u (exo u (A 31) none)) q3 (.tup [.ref u, .int 31]) = H7 at s3 m1 m2 m3 ⊢
      refine fun v nv => ⟨by show 2 ≤ sizeLine; decide, fun q4 nq4 => ?_⟩
      obtain ⟨s4, av⟩ := exo_new (C := A 32) nv
      have t4 := same_new (o := .tup [.ref v, .int 32]) nq4
      have m4 : LoneX A (upd (upd H7 v (exo v (A 32) none)) q4 (.tup [.ref v, .int 32])) (.ref q4) := ⟨q4, v, 32, rfl, upd_same, by decide, av.to t4⟩
      have m1 := (m1.to s4).to t4
      have m2 := (m2.to s4).to t4
      have m3 := (m3.to s4).to t4
      have s4 := s4.trans t4
      generalize upd (upd H7 v (exo v (A 32) none)) q4 (.tup [.ref v, .int 32]) = H8 at s4 m1 m2 m3 m4 ⊢
      refine ⟨by show 4 ≤ sizeLine; decide, fun ql nql => ?_⟩
      have t5 := same_new (o := .lst [.ref q1, .ref q2, .ref q3, .ref q4]) nql
      have hql : upd H8 ql (.lst [.ref q1, .ref q2, .ref q3, .ref q4]) ql = some (.lst [.ref q1, .ref q2, .ref q3, .ref q4]) := upd_same
      have ms : ∀ x ∈ [V.ref q1, V.ref q2, V.ref q3, V.ref q4], LoneX A (upd H8 ql (.lst [.ref q1, .ref q2, .ref q3, .ref q4])) x :=
        List.forall_mem_cons.mpr ⟨m1.to t5, List.forall_mem_cons.mpr ⟨m2.to t5, List.forall_mem_cons.mpr ⟨m3.to t5, List.forall_mem_cons.mpr ⟨m4.to t5, fun _ z => nomatch z⟩⟩⟩⟩
      have s9 := s1.trans (s2.trans (s3.trans (s4.trans t5)))
      have h9a := dz_same s9 h3a
      have D9 := D3.same s9
      have k9 := k3.trans (Kept.of s9)
      generalize upd H8 ql (.lst [.ref q1, .ref q2, .ref q3, .ref q4]) = H9 at hql ms h9a D9 k9 ⊢
      clear m1 m2 m3 m4 s1 s2 s3 s4 t3 t4 t5 s9 au av h3a h3b D3 k3 ax3 ay3 ay4
      refine ⟨_, rfl, ql, rfl, ⟨_, SqL.of hql⟩, fun D2 nD2 => ?_⟩
      refine lc_fil (walk_list (K := K) (a := ql) (xs := [V.ref q1, V.ref q2, V.ref q3, V.ref q4])) (by show 4 ≤ 1000; decide) nD2 (fun _ => false) (fun _ => .non) (fun HH ss => SqL.of (ss _ _ hql)) ?_ ?_
      · rintro j z HF HG hj sF ⟨rfl, hz⟩ R N hR hN
        obtain ⟨t, e, k, rfl, ht, hk, hx⟩ := (ms _ (List.mem_of_getElem? hz)).to sF
        refine ⟨t, _, rfl, .inl (.inl ht), rfl, _, _, rfl, _, _, rfl, rfl, ?_⟩
        refine ⟨rfl, ?_⟩
        refine ⟨_, rfl, _, rfl, e, k, rfl, hk, hx, fun HH sH => ⟨true, rfl, ?_⟩⟩
        exact ifF rfl (hN rfl _ sH)
      intro HF sF hF
      refine ⟨Nat.zero_le _, fun pn npn => ?_⟩
      have sG := same_new (o := .lst []) npn
      refine ⟨D2, pn, [], rfl, rfl, .inr ⟨SqL.of (sG _ _ hF), SqL.of upd_same⟩, true, rfl, ifT rfl ?_⟩
      have sX := sF.trans sG
      refine ⟨_, rfl, va, da, rfl, dz_same sX h9a, za, fun HH sH => ?_⟩
      have sY := sX.trans sH
      exact q _ ((D9.same sY).mono (by omega)) (k9.trans (Kept.of sY))
end
end SG

/-! The law. -/
namespace SG
open PySem PySem.Spec PyProof.Rows L2 TL
local macro_rules
  | `(tactic| clean_wf) => `(tactic| repeat (first | refine ⟨_, rfl, ?_⟩ | refine ⟨rfl, ?_⟩ | refine ⟨_, _, rfl, ?_⟩ | refine ⟨_, _, rfl, rfl, ?_⟩ | refine ⟨_, _, _, rfl, ?_⟩ | refine ⟨_, _, _, _, rfl, ?_⟩))
local macro_rules
  | `(tactic| exists $u:ident, $n:ident, $H:ident, $q:ident, $e:ident) => `(tactic| (refine ⟨by first | exact Nat.zero_le _ | assumption | (simp only [List.length_cons, List.length_nil]; decide), fun $u $n => ?_⟩; generalize hh : upd _ $u _ = $H; obtain ⟨$q, $e⟩ := mkq $n hh; clear hh))
local macro_rules
  | `(tactic| simp_wf) => `(tactic| first | assumption | exact upd_same | (refine (by assumption : Same _ _) _ _ ?_; simp_wf) | (refine (by assumption : Kept _ _ _ _) _ _ ?_ (by assumption) (by assumption); simp_wf))
local macro_rules
  | `(tactic| decreasing_trivial) => `(tactic| first | assumption | exact .inl (.inl (by assumption)) | (refine sameT (by assumption) ?_; decreasing_trivial))
local macro_rules
  | `(tactic| array_get_dec) => `(tactic| first | assumption | (refine CdAt.same (by assumption) ?_; array_get_dec))
section
variable {P : Program} {w : World} {K : PySem.W.Frag} {mg : Str → Option Value} {base : Heap}
def Odd (K : PySem.W.Frag) (d l : Addr) (H : Hp) (v : V) : Prop := ∃ dd, isWd dd = false ∧ (∀ s, dd = .str s → s.length ≤ 50000) ∧ Good K d l H v dd
theorem Odd.to {K : PySem.W.Frag} {d l : Addr} {H H2 : Hp} {v : V} (h : Odd K d l H v) (k : Kept d l H H2) : Odd K d l H2 v := by
  obtain ⟨dd, h1, h2, h3⟩ := h
  exact ⟨dd, h1, h2, fun H3 k3 => h3 H3 (k.trans k3)⟩
theorem Odd.st {K : PySem.W.Frag} {d l : Addr} {H : Hp} (s : Str) (h : isWd (.str s) = false) (n : s.length ≤ 50000) : Odd K d l H (.str s) := ⟨.str s, h, fun t e => by cases e; exact n, fun _ _ => .str s⟩
theorem Odd.ot {K : PySem.W.Frag} {d l : Addr} {H : Hp} {v : V} (dd : PyData) (g : Good K d l H v dd) (h : isStrD dd = false) : Odd K d l H v := by
  refine ⟨dd, ?_, ?_, g⟩
  · cases dd <;> simp [isWd, isStrD] at h ⊢
  · rintro s rfl
    simp [isStrD] at h
theorem app_cps (x y : Str) : (x ++ y).cps.toList = x.cps.toList ++ y.cps.toList := Array.toList_append
theorem len_cps (x : Str) : x.cps.toList.length = x.length := Array.length_toList ..
theorem lets_app (l m : List Nat) : lettersB (l ++ m) = (lettersB l && lettersB m) := List.all_append
theorem wd_app {x y : Str} {n m : Nat} (hx : Wd n x) (hy : Wd m y) : Wd (n + m) (x ++ y) := by
  refine ⟨?_, ?_⟩
  · rw [app_cps, lets_app, hx.1, hy.1]
    rfl
  · rw [← len_cps, app_cps, List.length_append, len_cps, len_cps]
    have := hx.2
    have := hy.2
    omega
theorem wd_mono {x : Str} {n m : Nat} (h : Wd n x) (l : n ≤ m) : Wd m x := ⟨h.1, Nat.le_trans h.2 l⟩
theorem wd_rev {x z : Str} {n : Nat} (h : Wd n x) (e : z.cps.toList = x.cps.toList.reverse) : Wd n z := by
  refine ⟨?_, ?_⟩
  · have := h.1
    unfold lettersB at this ⊢
    rw [e, List.all_reverse]
    exact this
  · rw [← len_cps, e, List.length_reverse, len_cps]
    exact h.2
theorem wd_cut {x : Str} {n : Nat} (h : Wd n x) (a b : Option Int) : Wd n (cutS x a b) := by
  have e : ∃ i j, (cutS x a b).cps.toList = (x.cps.toList.drop i).take j := ⟨_, _, rfl⟩
  obtain ⟨i, j, e⟩ := e
  refine ⟨?_, ?_⟩
  · have := h.1
    unfold lettersB at this ⊢
    rw [e]
    rw [List.all_eq_true] at this ⊢
    exact fun g hg => this g (List.mem_of_mem_drop (List.mem_of_mem_take hg))
  · rw [← len_cps, e]
    have := h.2
    have := len_cps x
    rw [List.length_take, List.length_drop]
    omega
theorem wd_rep {x z : Str} {n k : Nat} (h : Wd n x) (e : z.cps.toList = (List.replicate k x.cps.toList).flatten) : lettersB z.cps.toList = true ∧ z.length = k * x.length := by
  refine ⟨?_, ?_⟩
  · rw [e]
    clear e
    induction k with
    | zero => rfl
    | succ k ih => rw [List.replicate_succ, List.flatten_cons, lets_app, h.1, ih]; rfl
  · rw [← len_cps, e]
    clear e
    induction k with
    | zero => simp
    | succ k ih => rw [List.replicate_succ, List.flatten_cons, List.length_append, ih, len_cps, Nat.succ_mul]; omega
theorem not_wd (x y : Str) : lettersB (x ++ Str.ofString "A" ++ y).cps.toList = false := by
  rw [app_cps, app_cps, lets_app, lets_app, show lettersB (Str.ofString "A").cps.toList = false by decide +kernel]
  simp
theorem ahead_trans {x y z : Str} (h1 : aheadB x y = true) (h2 : aheadB y z = true) : aheadB x z = true := by
  unfold aheadB at h1 h2 ⊢
  simp only [Bool.or_eq_true, Bool.and_eq_true, decide_eq_true_iff] at h1 h2 ⊢
  rcases h1 with h1 | ⟨h1, l1⟩ <;> rcases h2 with h2 | ⟨h2, l2⟩
  · exact .inl (by omega)
  · exact .inl (by omega)
  · exact .inl (by omega)
  · exact .inr ⟨by omega, List.lt_trans l1 l2⟩
theorem ahead3 {x y z : Str} {σ : L2.St} {H : Hp} {R : Bool → Hp → Prop} (e4 : σ[4]? = some (some (.str x))) (e5 : σ[5]? = some (some (.str y))) (e6 : σ[6]? = some (some (.str z))) (hx : x.length ≤ 1000) (hy : y.length ≤ 1000) (hz : z.length ≤ 1000) (q : ∀ H2, Same H H2 → R false H2) :
    tAnd (tB (tCall spAhead [] E0 (tCons (tVar 4) (tCons (tVar 5) tNil)))) (tAnd (tB (tCall spAhead [] E0 (tCons (tVar 5) (tCons (tVar 6) tNil)))) (tNot (tB (tCall spAhead [] E0 (tCons (tVar 4) (tCons (tVar 6) tNil)))))) σ H R := by
  refine ⟨_, e4, _, e5, x, y, rfl, hx, hy, fun H1 s1 => ⟨_, rfl, ?_⟩⟩
  by_cases h1 : aheadB x y = true
  case neg => exact ifF (by simpa using h1) (q _ s1)
  refine ifT h1 ⟨_, e5, _, e6, y, z, rfl, hy, hz, fun H2 s2 => ⟨_, rfl, ?_⟩⟩
  by_cases h2 : aheadB y z = true
  case neg => exact ifF (by simpa using h2) (q _ (s1.trans s2))
  refine ifT h2 ⟨_, e4, _, e6, x, z, rfl, hx, hz, fun H3 s3 => ⟨_, rfl, ?_⟩⟩
  rw [ahead_trans h1 h2]
  exact q _ (s1.trans (s2.trans s3))
def spLaw (K : PySem.W.Frag) : Sp := fun vs H Q _ => ∃ (a : Addr) (ns : List Int), vs = [.ref a] ∧ SqL K H a (ns.map V.int) ∧ ns.length ≤ 63 ∧ ∀ H2, Q (.bl true) H2
theorem ok_law {f f__law_deck f__law_draw f__law_pick f__law_word f__law_common f__law_two_right f_is_ahead f_common_beginning f_is_word f__law_errors_right : Addr} {fd fd__law_deck fd__law_draw fd__law_pick fd__law_word fd__law_common fd__law_two_right fd_is_ahead fd_common_beginning fd_is_word fd__law_errors_right : FuncData} (hdg : base.NoDigits) (F : Fun K "law" "law" s_law f fd) (F__law_deck : Fun K "_law_deck" "_law_deck" s__law_deck f__law_deck fd__law_deck) (m__law_deck : mg "_law_deck" = some (.ref f__law_deck)) (b__law_deck : Binds K fd__law_deck ["_law_script"] []) (F__law_draw : Fun K "_law_draw" "_law_draw" s__law_draw f__law_draw fd__law_draw) (m__law_draw : mg "_law_draw" = some (.ref f__law_draw)) (b__law_draw : Binds K fd__law_draw ["_law_deck_here", "_law_below"] []) (F__law_pick : Fun K "_law_pick" "_law_pick" s__law_pick f__law_pick fd__law_pick) (m__law_pick : mg "_law_pick" = some (.ref f__law_pick)) (b__law_pick : Binds K fd__law_pick ["_law_deck_here", "_law_some"] []) (F__law_word : Fun K "_law_word" "_law_word" s__law_word f__law_word fd__law_word) (m__law_word : mg "_law_word" = some (.ref f__law_word)) (b__law_word : Binds K fd__law_word ["_law_deck_here", "_law_top"] []) (F__law_common : Fun K "_law_common" "_law_common" s__law_common f__law_common fd__law_common) (m__law_common : mg "_law_common" = some (.ref f__law_common)) (b__law_common : Binds K fd__law_common ["_law_own", "_law_mate"] []) (F__law_two_right : Fun K "_law_two_right" "_law_two_right" s__law_two_right f__law_two_right fd__law_two_right) (m__law_two_right : mg "_law_two_right" = some (.ref f__law_two_right)) (b__law_two_right : Binds K fd__law_two_right ["_law_own", "_law_mate"] []) (F_is_ahead : Fun K "is_ahead" "is_ahead" s_is_ahead f_is_ahead fd_is_ahead) (m_is_ahead : mg "is_ahead" = some (.ref f_is_ahead)) (b_is_ahead : Binds K fd_is_ahead ["one", "other"] []) (F_common_beginning : Fun K "common_beginning" "common_beginning" s_common_beginning f_common_beginning fd_common_beginning) (m_common_beginning : mg "common_beginning" = some (.ref f_common_beginning)) (b_common_beginning : Binds K fd_common_beginning ["one", "other"] []) (F_is_word : Fun K "is_word" "is_word" s_is_word f_is_word fd_is_word) (m_is_word : mg "is_word" = some (.ref f_is_word)) (b_is_word : Binds K fd_is_word ["thing"] []) (F__law_errors_right : Fun K "_law_errors_right" "_law_errors_right" s__law_errors_right f__law_errors_right fd__law_errors_right) (m__law_errors_right : mg "_law_errors_right" = some (.ref f__law_errors_right)) (b__law_errors_right : Binds K fd__law_errors_right ["_law_deck_here"] []) (kb_is_ahead_other_one : KBinds K fd_is_ahead ["one", "other"] ["other", "one"] kwTurn kwTurn) (kb_common_beginning_other_one : KBinds K fd_common_beginning ["one", "other"] ["other", "one"] kwTurn kwTurn) (kb_is_word_thing : KBinds K fd_is_word ["thing"] ["thing"] kwOne kwOne) (G__law_errors_right : GFn P w K mg base CX0 4 f__law_errors_right fd__law_errors_right ["_law_deck_here"] spErrs) (T : Txt mg) : GFn P w K mg base CX0 5 f fd ["_law_script"] (spLaw K) := by
  have G__law_deck : GFn P w K mg base CX0 1 f__law_deck fd__law_deck ["_law_script"] (spDeck K) := ok_deck F__law_deck T
  have G__law_pick := ok_pick (P := P) (w := w) (base := base) F__law_pick F__law_draw m__law_draw b__law_draw T
  have G__law_word := ok_word (P := P) (w := w) (base := base) F__law_word F__law_draw m__law_draw b__law_draw F__law_pick m__law_pick b__law_pick T
  have G__law_two_right := ok_two (P := P) (w := w) hdg F__law_two_right F__law_common m__law_common b__law_common F_is_ahead m_is_ahead b_is_ahead kb_is_ahead_other_one F_common_beginning m_common_beginning b_common_beginning kb_common_beginning_other_one T
  have G_is_ahead : GFn P w K mg base CX0 1 f_is_ahead fd_is_ahead ["one", "other"] spAhead := .of (fo_is_ahead F_is_ahead T)
  have G_is_word : GFn P w K mg base CX0 1 f_is_word fd_is_word ["thing"] (spWd K) := .of (fo_is_word F_is_word T)
  refine gfun_ok F sc_law (fun vs H Q E h => ?_) (fun cdv A outer s H vs Q E hgu hr h => ?_)
  · obtain ⟨a, ns, rfl, _⟩ := h
    rfl
  · obtain ⟨a, ns, rfl, hS, hn, q⟩ := h
    have nd := sc_law.nd
    refine ⟨_, (pss_cons (ps_set (i := 1) nd rfl (Or.inl rfl) (pe_g G__law_deck hgu (hr.mono (by decide)) (by rfl) m__law_deck F__law_deck.kp b__law_deck .nil pass0 (pa_cons (pv 0) pa_nil)))
      (pss_cons (ps_if (pt_not (pt_val (pe_g G__law_errors_right hgu (hr.mono (by decide)) (by rfl) m__law_errors_right F__law_errors_right.kp b__law_errors_right .nil pass0 (pa_cons (pv 1) pa_nil)))) (pss_one (ps_ret pe_bl)) pss_nil)
      (pss_cons (ps_set (i := 2) nd rfl (Or.inl rfl) (pe_lst (pa_cons pe_str (pa_cons pe_str (pa_cons pe_str (pa_cons pe_str (pa_cons pe_str (pa_cons pe_str (pa_cons pe_str (pa_cons pe_str (pa_cons pe_str (pa_cons pe_str (pa_cons pe_str (pa_cons pe_non (pa_cons pe_int (pa_cons pe_bl (pa_cons (pe_tup pa_nil) (pa_cons (pe_lst pa_nil) pa_nil))))))))))))))))))
      (pss_cons (ps_set (i := 2) nd rfl (Or.inl rfl) (pe_op op_cat (pv 2) (pe_lst (pa_cons pe_dnewK (pa_cons (pe_tup (pa_cons pe_str pa_nil)) (pa_cons (pe_lst (pa_cons pe_str pa_nil)) (pa_cons pe_int (pa_cons pe_str pa_nil))))))))
      (pss_cons (ps_for PassesOwn.never rfl (pi_range1 rfl T.range (pa_cons pe_int pa_nil)) (pg_name (i := 3) nd rfl (Or.inl rfl))
        (pss_cons (ps_set (i := 4) nd rfl (Or.inl rfl) (pe_g G__law_word hgu (hr.mono (by decide)) (by rfl) m__law_word F__law_word.kp b__law_word .nil pass0 (pa_cons (pv 1) (pa_cons pe_int pa_nil))))
      (pss_cons (ps_set (i := 5) nd rfl (Or.inl rfl) (pe_g G__law_pick hgu (hr.mono (by decide)) (by rfl) m__law_pick F__law_pick.kp b__law_pick .nil pass0 (pa_cons (pv 1) (pa_cons (pe_lst (pa_cons (pv 4) (pa_cons (pe_op op_add_str (pv 4) (pe_g G__law_word hgu (hr.mono (by decide)) (by rfl) m__law_word F__law_word.kp b__law_word .nil pass0 (pa_cons (pv 1) (pa_cons pe_int pa_nil)))) (pa_cons (pe_slice sl_str (pv 4) po_none (po_some (pe_un un_neg pe_int))) (pa_cons (pe_g G__law_word hgu (hr.mono (by decide)) (by rfl) m__law_word F__law_word.kp b__law_word .nil pass0 (pa_cons (pv 1) (pa_cons pe_int pa_nil))) (pa_cons (pe_revX (K := K) (pv 4)) pa_nil)))))) pa_nil))))
      (pss_cons (ps_set (i := 6) nd rfl (Or.inl rfl) (pe_g G__law_word hgu (hr.mono (by decide)) (by rfl) m__law_word F__law_word.kp b__law_word .nil pass0 (pa_cons (pv 1) (pa_cons pe_int pa_nil))))
      (pss_cons (ps_if (PW.pt (pw_or (pt_not (pt_val (pe_g G__law_two_right hgu (hr.mono (by decide)) (by rfl) m__law_two_right F__law_two_right.kp b__law_two_right .nil pass0 (pa_cons (pv 4) (pa_cons (pv 5) pa_nil))))) (pw_or1 (pt_not (pt_val (pe_g G__law_two_right hgu (hr.mono (by decide)) (by rfl) m__law_two_right F__law_two_right.kp b__law_two_right .nil pass0 (pa_cons (pv 5) (pa_cons (pv 6) pa_nil)))))))) (pss_one (ps_ret pe_bl)) pss_nil)
      (pss_cons (ps_if (PW.pt (pw_and (pt_val (pe_g G_is_ahead hgu (hr.mono (by decide)) (by rfl) m_is_ahead F_is_ahead.kp b_is_ahead .nil pass0 (pa_cons (pv 4) (pa_cons (pv 5) pa_nil)))) (pw_and (pt_val (pe_g G_is_ahead hgu (hr.mono (by decide)) (by rfl) m_is_ahead F_is_ahead.kp b_is_ahead .nil pass0 (pa_cons (pv 5) (pa_cons (pv 6) pa_nil)))) (pw_and1 (pt_not (pt_val (pe_g G_is_ahead hgu (hr.mono (by decide)) (by rfl) m_is_ahead F_is_ahead.kp b_is_ahead .nil pass0 (pa_cons (pv 4) (pa_cons (pv 6) pa_nil))))))))) (pss_one (ps_ret pe_bl)) pss_nil)
      (pss_cons (ps_set (i := 7) nd rfl (Or.inl rfl) (pe_g G__law_pick hgu (hr.mono (by decide)) (by rfl) m__law_pick F__law_pick.kp b__law_pick .nil pass0 (pa_cons (pv 1) (pa_cons (pv 2) pa_nil))))
      (pss_cons (ps_set (i := 8) nd rfl (Or.inl rfl) (pe_lst (pa_cons (pe_g G_is_word hgu (hr.mono (by decide)) (by rfl) m_is_word F_is_word.kp b_is_word .nil pass0 (pa_cons (pv 4) pa_nil)) (pa_cons (pe_gK0 G_is_word hgu (hr.mono (by decide)) (by rfl) m_is_word F_is_word.kp kb_is_word_thing pass0 (pk_cons (pv 7) pk_nil)) (pa_cons (pe_g G_is_word hgu (hr.mono (by decide)) (by rfl) m_is_word F_is_word.kp b_is_word .nil pass0 (pa_cons (pe_op op_add_str (pe_op op_add_str (pv 4) pe_str) (pv 5)) pa_nil)) (pa_cons (pe_g G_is_word hgu (hr.mono (by decide)) (by rfl) m_is_word F_is_word.kp b_is_word .nil pass0 (pa_cons (pe_op op_repS (pv 5) pe_int) pa_nil)) pa_nil))))))
      (pss_one (ps_if (pt_cmpR op_ne (pe_callB (k_reprZ (K := K) hdg hgu hr) (by rfl) T.repr (by decide +kernel) (pa_cons (pv 8) pa_nil)) (pe_callB (k_reprZ (K := K) hdg hgu hr) (by rfl) T.repr (by decide +kernel) (pa_cons (pe_lst (pa_cons pe_bl (pa_cons pe_bl (pa_cons pe_bl (pa_cons pe_bl pa_nil))))) pa_nil)) (nomark _)) (pss_one (ps_ret pe_bl)) pss_nil))))))))))
      (pss_one (ps_ret (pe_and (pe_cmpR op_isBl (pe_g G_is_word hgu (hr.mono (by decide)) (by rfl) m_is_word F_is_word.kp b_is_word .nil pass0 (pa_cons pe_str pa_nil)) pe_bl (nomark _)) (pe_one (pe_cmpR (k_eqE (K := K) hr.units) (pe_lc (own := [("_law_it", 7)]) rfl nd (pi_list (pv 2)) (blkOk_by (N := N_law) (sc := defScope s_law) (by decide +kernel)) (fun _ _ _ _ _ => (pg_name (i := 7) nd rfl (Or.inl rfl))) (fun _ _ _ _ _ => (pts_one (pt_cmpR op_notBl (pe_g G_is_word hgu (hr.mono (by decide)) (by rfl) m_is_word F_is_word.kp b_is_word .nil pass0 (pa_cons (pv 7) pa_nil)) pe_bl (nomark _)))) (fun _ _ _ _ _ => (pv 7))) (pe_lst pa_nil) (nomark _))))))))))), ?_⟩
    refine ⟨_, rfl, a, ns, rfl, hS, hn, fun d l H1 D1 s1 => ?_⟩
    refine ⟨_, rfl, d, l, 0, rfl, D1, by decide, fun H2 D2 k2 => ⟨true, rfl, ifF rfl (nextI ?_)⟩⟩
    clear D1 s1 k2
    refine ⟨by show 0 ≤ sizeLine; decide, fun t0 nt0 => ?_⟩
    have m0 := D2.ne nt0
    have s1 := same_new (o := .tup []) nt0
    have g0 : Good K d l (upd H2 t0 (.tup [])) (.ref t0) (.tuple []) := good_tup upd_same m0 fun H2 k => .nil
    have D3 := D2.same s1
    generalize upd H2 t0 (.tup []) = H3 at s1 g0 D3 ⊢
    refine ⟨by show 0 ≤ sizeLine; decide, fun l0 nl0 => ?_⟩
    have s2 := same_new (o := .lst []) nl0
    have g1 : Good K d l (upd H3 l0 (.lst [])) (.ref l0) (.list []) := good_lst upd_same (D3.ne nl0) fun H2 k => .nil
    have g0 : Good K d l (upd H3 l0 (.lst [])) (.ref t0) (.tuple []) := fun H4 k => g0 H4 ((Kept.of s2).trans k)
    have D4 := D3.same s2
    generalize upd H3 l0 (.lst []) = H4 at s2 g0 g1 D4 ⊢
    refine ⟨by show 16 ≤ sizeLine; decide, fun po npo => ?_⟩
    dsimp only
    have s3 := same_new (o := .lst [V.str "A", V.str "aB", V.str "a1", V.str "a ", V.str " a", V.str "a\n", V.str "-", V.str "ab_", V.str "{", V.str "`", V.str "~a", V.non, V.int 0, V.bl true, V.ref t0, V.ref l0]) npo
    have hpo : upd H4 po (.lst [V.str "A", V.str "aB", V.str "a1", V.str "a ", V.str " a", V.str "a\n", V.str "-", V.str "ab_", V.str "{", V.str "`", V.str "~a", V.non, V.int 0, V.bl true, V.ref t0, V.ref l0]) po = some (.lst [V.str "A", V.str "aB", V.str "a1", V.str "a ", V.str " a", V.str "a\n", V.str "-", V.str "ab_", V.str "{", V.str "`", V.str "~a", V.non, V.int 0, V.bl true, V.ref t0, V.ref l0]) := upd_same
    have o1 : ∀ x ∈ [V.str "A", V.str "aB", V.str "a1", V.str "a ", V.str " a", V.str "a\n", V.str "-", V.str "ab_", V.str "{", V.str "`", V.str "~a", V.non, V.int 0, V.bl true, V.ref t0, V.ref l0], Odd K d l H4 x := List.forall_mem_cons.mpr ⟨.st "A" (by decide +kernel) (by decide +kernel), List.forall_mem_cons.mpr ⟨.st "aB" (by decide +kernel) (by decide +kernel), List.forall_mem_cons.mpr ⟨.st "a1" (by decide +kernel) (by decide +kernel), List.forall_mem_cons.mpr ⟨.st "a " (by decide +kernel) (by decide +kernel), List.forall_mem_cons.mpr ⟨.st " a" (by decide +kernel) (by decide +kernel), List.forall_mem_cons.mpr ⟨.st "a\n" (by decide +kernel) (by decide +kernel), List.forall_mem_cons.mpr ⟨.st "-" (by decide +kernel) (by decide +kernel), List.forall_mem_cons.mpr ⟨.st "ab_" (by decide +kernel) (by decide +kernel), List.forall_mem_cons.mpr ⟨.st "{" (by decide +kernel) (by decide +kernel), List.forall_mem_cons.mpr ⟨.st "`" (by decide +kernel) (by decide +kernel), List.forall_mem_cons.mpr ⟨.st "~a" (by decide +kernel) (by decide +kernel), List.forall_mem_cons.mpr ⟨.ot .none (fun _ _ => .non) rfl, List.forall_mem_cons.mpr ⟨.ot (.int 0) (fun _ _ => .int _) rfl, List.forall_mem_cons.mpr ⟨.ot (.bool true) (fun _ _ => .bl _) rfl, List.forall_mem_cons.mpr ⟨.ot _ g0 rfl, List.forall_mem_cons.mpr ⟨.ot _ g1 rfl, fun _ z => nomatch z⟩⟩⟩⟩⟩⟩⟩⟩⟩⟩⟩⟩⟩⟩⟩⟩
    have D5 := D4.same s3
    have o1 : ∀ x ∈ [V.str "A", V.str "aB", V.str "a1", V.str "a ", V.str " a", V.str "a\n", V.str "-", V.str "ab_", V.str "{", V.str "`", V.str "~a", V.non, V.int 0, V.bl true, V.ref t0, V.ref l0], Odd K d l (upd H4 po (.lst [V.str "A", V.str "aB", V.str "a1", V.str "a ", V.str " a", V.str "a\n", V.str "-", V.str "ab_", V.str "{", V.str "`", V.str "~a", V.non, V.int 0, V.bl true, V.ref t0, V.ref l0])) x := fun x hx => (o1 x hx).to (Kept.of s3)
    generalize upd H4 po (.lst [V.str "A", V.str "aB", V.str "a1", V.str "a ", V.str " a", V.str "a\n", V.str "-", V.str "ab_", V.str "{", V.str "`", V.str "~a", V.non, V.int 0, V.bl true, V.ref t0, V.ref l0]) = H5 at s3 hpo o1 D5 ⊢
    have n1 : ([V.str "A", V.str "aB", V.str "a1", V.str "a ", V.str " a", V.str "a\n", V.str "-", V.str "ab_", V.str "{", V.str "`", V.str "~a", V.non, V.int 0, V.bl true, V.ref t0, V.ref l0]).length = 16 := rfl
    generalize [V.str "A", V.str "aB", V.str "a1", V.str "a ", V.str " a", V.str "a\n", V.str "-", V.str "ab_", V.str "{", V.str "`", V.str "~a", V.non, V.int 0, V.bl true, V.ref t0, V.ref l0] = xs1 at hpo o1 n1
    clear g0 g1 m0 s1 s2 s3 D2 D3 D4
    refine ⟨_, rfl, ?_⟩
    refine fun d1 nd1 => ?_
    have s1 := same_new (o := .dK []) nd1
    have m1 := D5.ne nd1
    have g1 : Good K d l (upd H5 d1 (.dK [])) (.ref d1) (.dict []) := fun H2 k => .dct (k _ _ upd_same m1.1 m1.2)
    have D6 := D5.same s1
    generalize upd H5 d1 (.dK []) = H6 at s1 g1 D6 ⊢
    refine ⟨by show 1 ≤ sizeLine; decide, fun t1 nt1 => ?_⟩
    have s2 := same_new (o := .tup [.str "a"]) nt1
    have g1 : Good K d l (upd H6 t1 (.tup [.str "a"])) (.ref d1) (.dict []) := fun H2 k => g1 H2 ((Kept.of s2).trans k)
    have g2 : Good K d l (upd H6 t1 (.tup [.str "a"])) (.ref t1) (.tuple [.str "a"]) := good_tup upd_same (D6.ne nt1) fun H2 k => .cons (.str _) .nil
    have D7 := D6.same s2
    generalize upd H6 t1 (.tup [.str "a"]) = H7 at s2 g1 g2 D7 ⊢
    refine ⟨by show 1 ≤ sizeLine; decide, fun l1 nl1 => ?_⟩
    have s3 := same_new (o := .lst [.str "a"]) nl1
    have g1 : Good K d l (upd H7 l1 (.lst [.str "a"])) (.ref d1) (.dict []) := fun H2 k => g1 H2 ((Kept.of s3).trans k)
    have g2 : Good K d l (upd H7 l1 (.lst [.str "a"])) (.ref t1) (.tuple [.str "a"]) := fun H2 k => g2 H2 ((Kept.of s3).trans k)
    have g3 : Good K d l (upd H7 l1 (.lst [.str "a"])) (.ref l1) (.list [.str "a"]) := good_lst upd_same (D7.ne nl1) fun H2 k => .cons (.str _) .nil
    have D8 := D7.same s3
    generalize upd H7 l1 (.lst [.str "a"]) = H8 at s3 g1 g2 g3 D8 ⊢
    refine ⟨by show 5 ≤ sizeLine; decide, fun p2 np2 => ?_⟩
    have s4 := same_new (o := .lst [V.ref d1, V.ref t1, V.ref l1, V.int 1, V.str "0"]) np2
    have s04 := s1.trans (s2.trans (s3.trans s4))
    have o2 : ∀ x ∈ [V.ref d1, V.ref t1, V.ref l1, V.int 1, V.str "0"], Odd K d l H8 x := List.forall_mem_cons.mpr ⟨.ot _ g1 rfl, List.forall_mem_cons.mpr ⟨.ot _ g2 rfl, List.forall_mem_cons.mpr ⟨.ot _ g3 rfl, List.forall_mem_cons.mpr ⟨.ot (.int 1) (fun _ _ => .int _) rfl, List.forall_mem_cons.mpr ⟨.st "0" (by decide +kernel) (by decide +kernel), fun _ z => nomatch z⟩⟩⟩⟩⟩
    have o2 : ∀ x ∈ [V.ref d1, V.ref t1, V.ref l1, V.int 1, V.str "0"], Odd K d l (upd H8 p2 (.lst [V.ref d1, V.ref t1, V.ref l1, V.int 1, V.str "0"])) x := fun x hx => (o2 x hx).to (Kept.of s4)
    have o1 : ∀ x ∈ xs1, Odd K d l (upd H8 p2 (.lst [V.ref d1, V.ref t1, V.ref l1, V.int 1, V.str "0"])) x := fun x hx => (o1 x hx).to (Kept.of s04)
    have D9 := D8.same s4
    refine ⟨po, p2, xs1, _, rfl, rfl, s04 _ _ hpo, upd_same, Nat.le_of_lt (small1000 (by rw [n1]; show 16 + 5 ≤ 1000; decide)), fun od nod => ?_⟩
    have s5 := same_new (o := .lst (xs1 ++ [V.ref d1, V.ref t1, V.ref l1, V.int 1, V.str "0"])) nod
    have os : ∀ x ∈ xs1 ++ [V.ref d1, V.ref t1, V.ref l1, V.int 1, V.str "0"], Odd K d l (upd (upd H8 p2 (.lst [V.ref d1, V.ref t1, V.ref l1, V.int 1, V.str "0"])) od (.lst (xs1 ++ [V.ref d1, V.ref t1, V.ref l1, V.int 1, V.str "0"]))) x := fun x hx => ((List.mem_append.mp hx).elim (o1 x) (o2 x)).to (Kept.of s5)
    have hod : upd (upd H8 p2 (.lst [V.ref d1, V.ref t1, V.ref l1, V.int 1, V.str "0"])) od (.lst (xs1 ++ [V.ref d1, V.ref t1, V.ref l1, V.int 1, V.str "0"])) od = some (.lst (xs1 ++ [V.ref d1, V.ref t1, V.ref l1, V.int 1, V.str "0"])) := upd_same
    have nod2 := D9.ne nod
    have DA := D9.same s5
    generalize upd (upd H8 p2 (.lst [V.ref d1, V.ref t1, V.ref l1, V.int 1, V.str "0"])) od (.lst (xs1 ++ [V.ref d1, V.ref t1, V.ref l1, V.int 1, V.str "0"])) = HA at s5 os hod DA ⊢
    have n21 : (xs1 ++ [V.ref d1, V.ref t1, V.ref l1, V.int 1, V.str "0"]).length = 21 := by rw [List.length_append, n1]; rfl
    generalize xs1 ++ [V.ref d1, V.ref t1, V.ref l1, V.int 1, V.str "0"] = xs at os hod n21
    clear o1 o2 hpo g1 g2 g3 m1 s1 s2 s3 s4 s04 s5 D5 D6 D7 D8 D9 n1 npo nd1 nt1 nl1 np2 nod nt0 nl0
    have xne : xs ≠ [] := fun z => by
      rw [z] at n21
      cases n21
    refine ⟨8, rfl, by decide, by decide, ?_⟩
    rw [show ((8 : Int)).toNat = 8 from rfl]
    refine for_it (walk_range (lo := 0) (n := 8)) (fun i σ HI => ∃ (y3 y4 y5 y6 y7 y8 : Option V) (c : Nat), σ = [some (.ref a), some (.ref d), some (.ref od), y3, y4, y5, y6, y7, y8] ∧ Deck HI d l c ∧ c ≤ 2 + 200 * i ∧ Kept d l HA HI) ⟨none, none, none, none, none, none, _, rfl, DA, Nat.le_refl _, Kept.refl _ _ _⟩ (fun _ _ _ _ _ => trivial) ?_ ?_
    · rintro i x σ H2 H3 hi ⟨y3, y4, y5, y6, y7, y8, c, rfl, D2, hc, k2⟩ ⟨rfl, hx⟩
      refine ⟨_, rfl, d, l, c, 6, rfl, D2, by omega, by decide, fun own c4 H4 hc4 D4 k4 w4 => ?_⟩
      refine ⟨_, rfl, _, rfl, _, rfl, _, rfl, d, l, c4, 3, rfl, D4, by omega, by decide, fun w1 c5 H5 hc5 D5 k5 w5 => ?_⟩
      have big : ∀ n : Nat, n ≤ 1000 → n ≤ sizeLine := fun n h => Nat.le_trans h (by decide)
      have l4 := w4.2
      have l5 := w5.2
      refine ⟨_, _, rfl, rfl, big _ (by omega), ?_⟩
      refine ⟨_, rfl, 1, rfl, -1, rfl, own, rfl, big _ (by omega), ?_⟩
      refine ⟨_, rfl, d, l, c5, 6, rfl, D5, by omega, by decide, fun w2 c6 H6 hc6 D6 k6 w6 => ?_⟩
      refine ⟨_, rfl, .inr ⟨own, rfl, by omega, fun z2 hz2 => ?_⟩⟩
      refine ⟨by show 5 ≤ sizeLine; decide, fun lp nlp => ?_⟩
      have s7 := same_new (o := .lst [V.str own, V.str (own ++ w1), V.str (cutS own none (some (-1))), V.str w2, V.str z2]) nlp
      refine ⟨d, l, c6, D6.same s7, by omega, .inl ⟨lp, _, rfl, SqL.of upd_same, (D6.ne nlp).2, by simp, by show 5 ≤ 1000; decide, fun mt H8 hmt D8 k8 => ?_⟩⟩
      obtain ⟨mate, rfl, w8⟩ : ∃ m : Str, mt = V.str m ∧ Wd 11 m := by
        simp only [List.mem_cons, List.not_mem_nil, or_false] at hmt
        rcases hmt with rfl | rfl | rfl | rfl | rfl
        · exact ⟨_, rfl, wd_mono w4 (by decide)⟩
        · exact ⟨_, rfl, wd_app w4 w5⟩
        · exact ⟨_, rfl, wd_mono (wd_cut w4 _ _) (by decide)⟩
        · exact ⟨_, rfl, wd_mono w6 (by decide)⟩
        · exact ⟨_, rfl, wd_mono (wd_rev w4 hz2) (by decide)⟩
      have k28 := k2.trans (k4.trans (k5.trans (k6.trans ((Kept.of s7).trans k8))))
      clear hmt nlp s7 k4 k5 k6 k8 D2 D4 D5 D6 k2 w5 w6 hz2
      refine ⟨_, rfl, d, l, c6 + 1, 5, rfl, D8, by omega, by decide, fun third c9 H9 hc9 D9 k9 w9 => ?_⟩
      have k29 := k28.trans k9
      clear k28 k9 D8
      have l8 := w8.2
      have l9 := w9.2
      refine ⟨_, rfl, _, rfl, own, mate, rfl, by omega, by omega, w4.1, fun HB sB => ⟨true, rfl, ifF rfl ?_⟩⟩
      refine ⟨_, rfl, _, rfl, mate, third, rfl, by omega, by omega, w8.1, fun HC sC => ⟨true, rfl, ifF rfl (nextI ?_)⟩⟩
      have sBC := sB.trans sC
      refine ahead3 (x := own) (y := mate) (z := third) rfl rfl rfl (by omega) (by omega) (by omega) fun HD sD => ifF rfl (nextI ?_)
      have s9 := sBC.trans sD
      have DD := D9.same s9
      have kD := k29.trans (Kept.of s9)
      clear sB sC sBC sD s9 D9 k29 w9
      refine ⟨_, rfl, _, rfl, d, l, c9, DD, by omega, .inl ⟨od, xs, rfl, kD.lst DA nod2.2 (SqL.of hod), nod2.2, xne, by omega, fun it HE hit DE kE => ?_⟩⟩
      obtain ⟨dd, i1, i2, i3⟩ := (os it hit).to (kD.trans kE)
      have kE := kD.trans kE
      have dE := i3 HE (Kept.refl _ _ _)
      clear kD DD i3 hit
      refine ⟨_, rfl, .str own, .str own, rfl, .str own, fun s e => (by cases e; omega), fun HF sF => ?_⟩
      refine ⟨_, rfl, it, dd, rfl, dz_same sF dE, i2, fun HG sG => ?_⟩
      have la : (Str.ofString "A").length = 1 := by decide +kernel
      have lap : ∀ x y : Str, (x ++ y).length = x.length + y.length := fun x y => by rw [← len_cps, app_cps, List.length_append, len_cps, len_cps]
      refine ⟨_, rfl, _, _, rfl, rfl, big _ (by omega), _, rfl, _, _, rfl, rfl, big _ (by rw [lap]; omega), ?_⟩
      refine ⟨.str (own ++ Str.ofString "A" ++ mate), .str _, rfl, .str _, fun s e => (by cases e; rw [lap, lap]; omega), fun HI sI => ?_⟩
      refine ⟨_, rfl, mate, 20, rfl, rfl, by decide, by omega, by omega, by decide, fun z3 hz3 => ?_⟩
      obtain ⟨r1, r2⟩ := wd_rep w8 hz3
      refine ⟨.str z3, .str z3, rfl, .str _, fun s e => (by cases e; omega), fun HJ sJ => ?_⟩
      rw [show isWd (.str own) = true from w4.1, i1, show isWd (.str (own ++ Str.ofString "A" ++ mate)) = false from not_wd own mate, show isWd (.str z3) = true from r1]
      refine ⟨by show 4 ≤ sizeLine; decide, fun pt npt => ?_⟩
      have sK := same_new (o := .lst [.bl true, .bl false, .bl false, .bl true]) npt
      have hpt : upd HJ pt (.lst [.bl true, .bl false, .bl false, .bl true]) pt = some (.lst [.bl true, .bl false, .bl false, .bl true]) := upd_same
      generalize upd HJ pt (.lst [.bl true, .bl false, .bl false, .bl true]) = HK at sK hpt ⊢
      obtain ⟨z1, z2, z3⟩ := szs (ds := [.bool true, .bool false, .bool false, .bool true]) (fun d hd => by
        simp only [List.mem_cons, List.not_mem_nil, or_false] at hd
        rcases hd with rfl | rfl | rfl | rfl <;> exact ⟨rfl, rfl, by decide, by decide⟩) (by decide)
      refine ⟨_, rfl, pt, _, [.bool true, .bool false, .bool false, .bool true], rfl, SqL.of hpt, .cons (.bl _) (.cons (.bl _) (.cons (.bl _) (.cons (.bl _) .nil))), z1, z2, z3, ?_⟩
      refine ⟨by show 4 ≤ sizeLine; decide, fun pu npu => ?_⟩
      have sL := same_new (o := .lst [.bl true, .bl false, .bl false, .bl true]) npu
      refine ⟨pu, _, [.bool true, .bool false, .bool false, .bool true], rfl, SqL.of upd_same, .cons (.bl _) (.cons (.bl _) (.cons (.bl _) (.cons (.bl _) .nil))), z1, z2, z3, rfl, _, rfl, ifF (by simp) ?_⟩
      have sZ := sF.trans (sG.trans (sI.trans (sJ.trans (sK.trans sL))))
      exact ⟨_, _, _, _, _, _, c9 + 1, rfl, DE.same sZ, by omega, kE.trans (Kept.of sZ)⟩
    · rintro σ H2 ⟨y3, y4, y5, y6, y7, y8, c, rfl, D2, hc, k2⟩
      have hod2 := k2 _ _ hod nod2.1 nod2.2
      refine ⟨.str "", .str "", rfl, .str _, fun s e => (by cases e; decide +kernel), fun HF sF => ?_⟩
      rw [show isWd (PyData.str (Str.ofString "")) = true by decide +kernel]
      refine ⟨_, _, rfl, rfl, true, rfl, ifT rfl ?_⟩
      have hodF := sF _ _ hod2
      refine ⟨_, rfl, od, rfl, ⟨_, SqL.of hodF⟩, fun D2 nD2 => ?_⟩
      refine lc_fil (walk_list (K := K) (a := od) (xs := xs)) (by omega) nD2 (fun _ => false) (fun _ => .non) (fun HH ss => SqL.of (ss _ _ hodF)) ?_ ?_
      · rintro j z HG HI hj sG ⟨rfl, hz⟩ R N hR hN
        obtain ⟨dd, i1, i2, i3⟩ := os z (List.mem_of_getElem? hz)
        refine ⟨wipe1 _ _ _, ?_⟩
        refine ⟨_, rfl, z, dd, rfl, i3 _ (k2.trans ((Kept.of sF).trans (Kept.of sG))), i2, fun HJ sJ => ?_⟩
        rw [i1]
        refine ⟨_, _, rfl, rfl, false, rfl, ?_⟩
        exact ifF rfl (hN rfl _ sJ)
      intro HG sG hG
      have hG : HG D2 = some (.lst []) := by
        rw [hG, List.filter_eq_nil_iff.mpr (fun _ _ => Bool.false_ne_true)]
        rfl
      refine ⟨Nat.zero_le _, fun pn npn => ?_⟩
      exact ⟨D2, pn, [], rfl, rfl, .inr ⟨SqL.of ((same_new npn) _ _ hG), SqL.of upd_same⟩, q _⟩
end
end SG

/-! a law's head by facts (one run of the top), contracts with the guards kept -/
namespace SG
open PySem PySem.Spec PyProof.Rows L2
theorem walk_gE {l : PySem.W.OpenLaw} {n k : Nat} {q : Program} {loose : List Str} {XP : (Str → Option Value) → Heap → Prop} {YP : World → Heap → Prop} {d : DefRec} {x : Str}
    (hn : l.most = some n) (hn2 : n ≤ sizeLine) (hdf : d.params.defaults = []) (hr : Room k callerA)
    (F : ∀ (wo : World) (mg : Str → Option Value) (fa : Addr) (h : Heap), YP wo h → h.Ns mainGlobals mg → mg d.name = some (.ref fa) →
      ∃ (K : PySem.W.Frag) (fd : FuncData) (sp : Sp), K.In h ∧ (∀ (st : Shared) (u : Value), BindsTo st fd ⟨[u], []⟩ [(x, u)]) ∧
        (∀ (Hx : Hp) (a : Addr) (ns : List Int), ns.length ≤ n → Only Hx → SqL K Hx a (ns.map V.int) → sp [.ref a] Hx (fun v _ => v = .bl true) E0) ∧
        ∀ ba : Heap, K.In ba → ba.Ns mainGlobals mg → ba.NoDigits → GFn l.prog wo K mg ba CX0 k fa fd [x] sp) :
    PySem.W.WalkO q loose XP YP l.row.toRowW d [] (fun f vs => PySem.call f vs) := by
  refine Att.attach_call hn hdf fun w s₀ s₁ mg mb fa o pm cd doc a vs ns G Y ho hd hcd hmg hobj hints hlen hg => ?_
  obtain ⟨K, fd, sp, KX, hb, hsp, hF⟩ := F w mg fa _ Y G.T.g hmg
  exact law_g KX G.T.g G.T.b G.T.builtins G.T.nolimit G.T.nodigits hg hobj hints (Nat.le_trans hlen hn2) hr hF hb fun Hx hO hS => hsp Hx a ns hlen hO hS
/-- a def without defaults, of the head's facts -/
theorem fun_ofD {K : PySem.W.Frag} {x qn : Str} {st : Stmt} {f : Addr} {fd : FuncData} (F : FunD K x qn (defArgs st) (defBody st) (defScope st) [] [] f fd) : Fun K x qn st f fd := by
  obtain ⟨oc, od, dV, kV, doc, pm, an, cdv, ct, osl, rfl, lk, hcd, hD, hK⟩ := F.ex
  rcases hD with ⟨_, rfl⟩ | ⟨e, _⟩
  · exact ⟨⟨oc, od, kV, doc, pm, an, cdv, ct, osl, rfl, lk, hcd⟩, F.kp⟩
  · exact absurd rfl e
end SG

namespace SG
open PySem PySem.Spec PyProof.Rows L2
theorem kwOne_args {α : Type} {us ws : List α} (h : (kwOne us ws).length = 1) : ∃ x, us = [] ∧ ws = [x] := by
  match us, ws, h with
  | [], [x], _ => exact ⟨x, rfl, rfl⟩
  | [], [], h => exact absurd h (by simp [kwOne])
  | [], _ :: _ :: _, h => exact absurd h (by simp [kwOne])
  | _ :: _, _, h => exact absurd h (by simp [kwOne])
theorem kwTurn_args {α : Type} {us ws : List α} (h : (kwTurn us ws).length = 2) : ∃ x y, us = [] ∧ ws = [x, y] := by
  match us, ws, h with
  | [], [x, y], _ => exact ⟨x, y, rfl, rfl⟩
  | [], [], h => exact absurd h (by simp [kwTurn])
  | [], [_], h => exact absurd h (by simp [kwTurn])
  | [], _ :: _ :: _ :: _, h => exact absurd h (by simp [kwTurn])
  | _ :: _, _, h => exact absurd h (by simp [kwTurn])
theorem exm_self {K : PySem.W.Frag} {S : Addr} (h1 : PySem.W.subIn K (.ref S) (.type "BaseException") = some true) (h2 : PySem.W.isClsIn K S = true) (h3 : PySem.W.typeIn K (.ref S) = some (.type "type")) (h4 : PySem.W.subIn K (.ref S) (.ref S) = some true) :
    PySem.W.exmOne K (.ref S) (.ref S) = some true := by
  have h2 : (PySem.W.clsIn K S).isSome = true := h2
  simp only [PySem.W.exmOne, PySem.W.kitCls, h1, h2, h3, h4]
  rfl
theorem kit_self {K : PySem.W.Frag} (c : Value) : PySem.W.kitOne K c c = some true := by
  unfold PySem.W.kitOne
  simp
theorem kit_sub {K : PySem.W.Frag} {t : Value} {C : Addr} (h2 : PySem.W.isClsIn K C = true) (h3 : PySem.W.typeIn K (.ref C) = some (.type "type")) (h4 : PySem.W.subIn K t (.ref C) = some true) : PySem.W.kitOne K t (.ref C) = some true := by
  have h2 : (PySem.W.clsIn K C).isSome = true := h2
  simp only [PySem.W.kitOne, PySem.W.kitCls, h2, h3, h4]
  split <;> rfl
theorem kit_not {K : PySem.W.Frag} {t : Value} {C : Addr} (h2 : PySem.W.isClsIn K C = true) (h3 : PySem.W.typeIn K (.ref C) = some (.type "type")) (h4 : PySem.W.subIn K t (.ref C) = some false) (h : (t == .ref C) = false) : PySem.W.kitOne K t (.ref C) = some false := by
  have h2 : (PySem.W.clsIn K C).isSome = true := h2
  simp only [PySem.W.kitOne, PySem.W.kitCls, h2, h3, h4, h]
  rfl
theorem isFn_type {K : PySem.W.Frag} {v : Value} (h : PySem.W.isFn K v = true) : PySem.W.typeIn K v = some (.type "function") := by
  unfold PySem.W.isFn at h
  simpa using h
set_option maxHeartbeats 4000000 in
theorem all_mk {l : PySem.W.OpenLaw} {w : World} {K : PySem.W.Frag} {h : Heap} {mg : Str → Option Value} {fa f_is_word f_is_ahead f_common_beginning f__law_deck f__law_draw f__law_pick f__law_word f__law_common f__law_two_right f__law_errors_one f__law_errors_two f__law_errors_three f__law_kinds f__law_is_alone f__law_errors_right f__law_is_caught f_law f_BadFormat___init__ f_BadSheet___init__ f_BadText___init__ f_BadLetters___init__ f_NotIn___init__ f_TooLong___init__ f_UnlikeRows___init__ f_NoWords___init__ f_Endless___init__ f_Uneven___init__ f_BadCode___init__ f_TwoWays___init__ f_NoMessage___init__ f_HasBeginnings___init__ f_TooMuch___init__ f_BadLot___init__ f_TooFar___init__ f_TooMany___init__ f_Doubles___init__ f_NotThin___init__ f_BadName___init__ f_NameTaken___init__ f_NoBook___init__ f_NoName___init__ f_NoWordLeft___init__ f_IssuedBefore___init__ f_NotDrawn___init__ f_NotInForce___init__ f_BadSign___init__ f_StillInForce___init__ f_BadDeed___init__ : Addr} {fd_is_word fd_is_ahead fd_common_beginning fd__law_deck fd__law_draw fd__law_pick fd__law_word fd__law_common fd__law_two_right fd__law_errors_one fd__law_errors_two fd__law_errors_three fd__law_kinds fd__law_is_alone fd__law_errors_right fd__law_is_caught fd_law fd_BadFormat___init__ fd_BadSheet___init__ fd_BadText___init__ fd_BadLetters___init__ fd_NotIn___init__ fd_TooLong___init__ fd_UnlikeRows___init__ fd_NoWords___init__ fd_Endless___init__ fd_Uneven___init__ fd_BadCode___init__ fd_TwoWays___init__ fd_NoMessage___init__ fd_HasBeginnings___init__ fd_TooMuch___init__ fd_BadLot___init__ fd_TooFar___init__ fd_TooMany___init__ fd_Doubles___init__ fd_NotThin___init__ fd_BadName___init__ fd_NameTaken___init__ fd_NoBook___init__ fd_NoName___init__ fd_NoWordLeft___init__ fd_IssuedBefore___init__ fd_NotDrawn___init__ fd_NotInForce___init__ fd_BadSign___init__ fd_StillInForce___init__ fd_BadDeed___init__ : FuncData} (X : K.In h) (G : h.Ns mainGlobals mg) (hfa : mg "law" = some (.ref fa))
    {C_BadFormat C_BadSheet C_BadText C_BadLetters C_NotIn C_TooLong C_UnlikeRows C_NoWords C_Endless C_Uneven C_BadCode C_TwoWays C_NoMessage C_TooMuch C_BadLot C_TooFar C_TooMany C_Doubles C_NotThin C_BadName C_NameTaken C_NoBook C_NoName C_NoWordLeft C_IssuedBefore C_NotDrawn C_NotInForce C_BadSign C_StillInForce C_BadDeed C_HasBeginnings C_NothingToUndo C_InvalidCommand C_SerialError : Addr}
    (g_BadFormat : PySem.W.nsIn K mainGlobals "BadFormat" = some (some (.ref C_BadFormat)))
    (g_BadSheet : PySem.W.nsIn K mainGlobals "BadSheet" = some (some (.ref C_BadSheet)))
    (g_BadText : PySem.W.nsIn K mainGlobals "BadText" = some (some (.ref C_BadText)))
    (g_BadLetters : PySem.W.nsIn K mainGlobals "BadLetters" = some (some (.ref C_BadLetters)))
    (g_NotIn : PySem.W.nsIn K mainGlobals "NotIn" = some (some (.ref C_NotIn)))
    (g_TooLong : PySem.W.nsIn K mainGlobals "TooLong" = some (some (.ref C_TooLong)))
    (g_UnlikeRows : PySem.W.nsIn K mainGlobals "UnlikeRows" = some (some (.ref C_UnlikeRows)))
    (g_NoWords : PySem.W.nsIn K mainGlobals "NoWords" = some (some (.ref C_NoWords)))
    (g_Endless : PySem.W.nsIn K mainGlobals "Endless" = some (some (.ref C_Endless)))
    (g_Uneven : PySem.W.nsIn K mainGlobals "Uneven" = some (some (.ref C_Uneven)))
    (g_BadCode : PySem.W.nsIn K mainGlobals "BadCode" = some (some (.ref C_BadCode)))
    (g_TwoWays : PySem.W.nsIn K mainGlobals "TwoWays" = some (some (.ref C_TwoWays)))
    (g_NoMessage : PySem.W.nsIn K mainGlobals "NoMessage" = some (some (.ref C_NoMessage)))
    (g_TooMuch : PySem.W.nsIn K mainGlobals "TooMuch" = some (some (.ref C_TooMuch)))
    (g_BadLot : PySem.W.nsIn K mainGlobals "BadLot" = some (some (.ref C_BadLot)))
    (g_TooFar : PySem.W.nsIn K mainGlobals "TooFar" = some (some (.ref C_TooFar)))
    (g_TooMany : PySem.W.nsIn K mainGlobals "TooMany" = some (some (.ref C_TooMany)))
    (g_Doubles : PySem.W.nsIn K mainGlobals "Doubles" = some (some (.ref C_Doubles)))
    (g_NotThin : PySem.W.nsIn K mainGlobals "NotThin" = some (some (.ref C_NotThin)))
    (g_BadName : PySem.W.nsIn K mainGlobals "BadName" = some (some (.ref C_BadName)))
    (g_NameTaken : PySem.W.nsIn K mainGlobals "NameTaken" = some (some (.ref C_NameTaken)))
    (g_NoBook : PySem.W.nsIn K mainGlobals "NoBook" = some (some (.ref C_NoBook)))
    (g_NoName : PySem.W.nsIn K mainGlobals "NoName" = some (some (.ref C_NoName)))
    (g_NoWordLeft : PySem.W.nsIn K mainGlobals "NoWordLeft" = some (some (.ref C_NoWordLeft)))
    (g_IssuedBefore : PySem.W.nsIn K mainGlobals "IssuedBefore" = some (some (.ref C_IssuedBefore)))
    (g_NotDrawn : PySem.W.nsIn K mainGlobals "NotDrawn" = some (some (.ref C_NotDrawn)))
    (g_NotInForce : PySem.W.nsIn K mainGlobals "NotInForce" = some (some (.ref C_NotInForce)))
    (g_BadSign : PySem.W.nsIn K mainGlobals "BadSign" = some (some (.ref C_BadSign)))
    (g_StillInForce : PySem.W.nsIn K mainGlobals "StillInForce" = some (some (.ref C_StillInForce)))
    (g_BadDeed : PySem.W.nsIn K mainGlobals "BadDeed" = some (some (.ref C_BadDeed)))
    (g_HasBeginnings : PySem.W.nsIn K mainGlobals "HasBeginnings" = some (some (.ref C_HasBeginnings)))
    (g_NothingToUndo : PySem.W.nsIn K mainGlobals "NothingToUndo" = some (some (.ref C_NothingToUndo)))
    (g_InvalidCommand : PySem.W.nsIn K mainGlobals "InvalidCommand" = some (some (.ref C_InvalidCommand)))
    (g_SerialError : PySem.W.nsIn K mainGlobals "SerialError" = some (some (.ref C_SerialError)))
    (x_BadFormat : xcB K C_BadFormat = true)
    (x_BadSheet : xcB K C_BadSheet = true)
    (x_BadText : xcB K C_BadText = true)
    (x_BadLetters : xcB K C_BadLetters = true)
    (x_NotIn : xcB K C_NotIn = true)
    (x_TooLong : xcB K C_TooLong = true)
    (x_UnlikeRows : xcB K C_UnlikeRows = true)
    (x_NoWords : xcB K C_NoWords = true)
    (x_Endless : xcB K C_Endless = true)
    (x_Uneven : xcB K C_Uneven = true)
    (x_BadCode : xcB K C_BadCode = true)
    (x_TwoWays : xcB K C_TwoWays = true)
    (x_NoMessage : xcB K C_NoMessage = true)
    (x_TooMuch : xcB K C_TooMuch = true)
    (x_BadLot : xcB K C_BadLot = true)
    (x_TooFar : xcB K C_TooFar = true)
    (x_TooMany : xcB K C_TooMany = true)
    (x_Doubles : xcB K C_Doubles = true)
    (x_NotThin : xcB K C_NotThin = true)
    (x_BadName : xcB K C_BadName = true)
    (x_NameTaken : xcB K C_NameTaken = true)
    (x_NoBook : xcB K C_NoBook = true)
    (x_NoName : xcB K C_NoName = true)
    (x_NoWordLeft : xcB K C_NoWordLeft = true)
    (x_IssuedBefore : xcB K C_IssuedBefore = true)
    (x_NotDrawn : xcB K C_NotDrawn = true)
    (x_NotInForce : xcB K C_NotInForce = true)
    (x_BadSign : xcB K C_BadSign = true)
    (x_StillInForce : xcB K C_StillInForce = true)
    (x_BadDeed : xcB K C_BadDeed = true)
    (x_HasBeginnings : xcB K C_HasBeginnings = true)
    (x_NothingToUndo : xcB K C_NothingToUndo = true)
    (x_InvalidCommand : xcB K C_InvalidCommand = true)
    (o_BadFormat : ownB K C_SerialError C_BadFormat = true)
    (o_BadSheet : ownB K C_SerialError C_BadSheet = true)
    (o_BadText : ownB K C_SerialError C_BadText = true)
    (o_BadLetters : ownB K C_SerialError C_BadLetters = true)
    (o_NotIn : ownB K C_SerialError C_NotIn = true)
    (o_TooLong : ownB K C_SerialError C_TooLong = true)
    (o_UnlikeRows : ownB K C_SerialError C_UnlikeRows = true)
    (o_NoWords : ownB K C_SerialError C_NoWords = true)
    (o_Endless : ownB K C_SerialError C_Endless = true)
    (o_Uneven : ownB K C_SerialError C_Uneven = true)
    (o_BadCode : ownB K C_SerialError C_BadCode = true)
    (o_TwoWays : ownB K C_SerialError C_TwoWays = true)
    (o_NoMessage : ownB K C_SerialError C_NoMessage = true)
    (o_TooMuch : ownB K C_SerialError C_TooMuch = true)
    (o_BadLot : ownB K C_SerialError C_BadLot = true)
    (o_TooFar : ownB K C_SerialError C_TooFar = true)
    (o_TooMany : ownB K C_SerialError C_TooMany = true)
    (o_Doubles : ownB K C_SerialError C_Doubles = true)
    (o_NotThin : ownB K C_SerialError C_NotThin = true)
    (o_BadName : ownB K C_SerialError C_BadName = true)
    (o_NameTaken : ownB K C_SerialError C_NameTaken = true)
    (o_NoBook : ownB K C_SerialError C_NoBook = true)
    (o_NoName : ownB K C_SerialError C_NoName = true)
    (o_NoWordLeft : ownB K C_SerialError C_NoWordLeft = true)
    (o_IssuedBefore : ownB K C_SerialError C_IssuedBefore = true)
    (o_NotDrawn : ownB K C_SerialError C_NotDrawn = true)
    (o_NotInForce : ownB K C_SerialError C_NotInForce = true)
    (o_BadSign : ownB K C_SerialError C_BadSign = true)
    (o_StillInForce : ownB K C_SerialError C_StillInForce = true)
    (o_BadDeed : ownB K C_SerialError C_BadDeed = true)
    (o_HasBeginnings : ownB K C_SerialError C_HasBeginnings = true)
    (n_BadFormat : PySem.W.findIn K (.ref C_BadFormat) "part" = some none)
    (n_BadSheet : PySem.W.findIn K (.ref C_BadSheet) "part" = some none)
    (n_BadText : PySem.W.findIn K (.ref C_BadText) "place" = some none)
    (n_BadLetters : PySem.W.findIn K (.ref C_BadLetters) "pairs" = some none)
    (n_NotIn : PySem.W.findIn K (.ref C_NotIn) "word" = some none)
    (n_TooLong : PySem.W.findIn K (.ref C_TooLong) "most" = some none)
    (n_UnlikeRows : PySem.W.findIn K (.ref C_UnlikeRows) "length" = some none)
    (n_NoWords : PySem.W.findIn K (.ref C_NoWords) "length" = some none)
    (n_Endless : PySem.W.findIn K (.ref C_Endless) "paper" = some none)
    (n_Uneven : PySem.W.findIn K (.ref C_Uneven) "shares" = some none)
    (n_BadCode : PySem.W.findIn K (.ref C_BadCode) "part" = some none)
    (n_TwoWays : PySem.W.findIn K (.ref C_TwoWays) "paper" = some none)
    (n_NoMessage : PySem.W.findIn K (.ref C_NoMessage) "place" = some none)
    (n_TooMuch : PySem.W.findIn K (.ref C_TooMuch) "share" = some none)
    (n_BadLot : PySem.W.findIn K (.ref C_BadLot) "part" = some none)
    (n_TooFar : PySem.W.findIn K (.ref C_TooFar) "most" = some none)
    (n_TooMany : PySem.W.findIn K (.ref C_TooMany) "most" = some none)
    (n_Doubles : PySem.W.findIn K (.ref C_Doubles) "paper" = some none)
    (n_NotThin : PySem.W.findIn K (.ref C_NotThin) "paper" = some none)
    (n_BadName : PySem.W.findIn K (.ref C_BadName) "name" = some none)
    (n_NameTaken : PySem.W.findIn K (.ref C_NameTaken) "name" = some none)
    (n_NoBook : PySem.W.findIn K (.ref C_NoBook) "name" = some none)
    (n_NoName : PySem.W.findIn K (.ref C_NoName) "name" = some none)
    (n_NoWordLeft : PySem.W.findIn K (.ref C_NoWordLeft) "name" = some none)
    (n_IssuedBefore : PySem.W.findIn K (.ref C_IssuedBefore) "word" = some none)
    (n_NotDrawn : PySem.W.findIn K (.ref C_NotDrawn) "tosses" = some none)
    (n_NotInForce : PySem.W.findIn K (.ref C_NotInForce) "word" = some none)
    (n_BadSign : PySem.W.findIn K (.ref C_BadSign) "sign" = some none)
    (n_StillInForce : PySem.W.findIn K (.ref C_StillInForce) "word" = some none)
    (n_BadDeed : PySem.W.findIn K (.ref C_BadDeed) "number" = some none)
    (n1_HasBeginnings : PySem.W.findIn K (.ref C_HasBeginnings) "one" = some none)
    (n2_HasBeginnings : PySem.W.findIn K (.ref C_HasBeginnings) "other" = some none)
    (q_NothingToUndo : PySem.W.excIn K C_NothingToUndo [.type "Exception", .type "BaseException", .type "object"] "Exception.__new__" = true)
    (k_NothingToUndo : PySem.W.keepIn K (.ref C_NothingToUndo) = true)
    (q_InvalidCommand : PySem.W.excIn K C_InvalidCommand [.type "Exception", .type "BaseException", .type "object"] "Exception.__new__" = true)
    (k_InvalidCommand : PySem.W.keepIn K (.ref C_InvalidCommand) = true)
    (kt_BadFormat : kitsB K C_SerialError C_BadFormat = true)
    (kt_BadSheet : kitsB K C_SerialError C_BadSheet = true)
    (kt_BadText : kitsB K C_SerialError C_BadText = true)
    (kt_BadLetters : kitsB K C_SerialError C_BadLetters = true)
    (kt_NotIn : kitsB K C_SerialError C_NotIn = true)
    (kt_TooLong : kitsB K C_SerialError C_TooLong = true)
    (kt_UnlikeRows : kitsB K C_SerialError C_UnlikeRows = true)
    (kt_NoWords : kitsB K C_SerialError C_NoWords = true)
    (kt_Endless : kitsB K C_SerialError C_Endless = true)
    (kt_Uneven : kitsB K C_SerialError C_Uneven = true)
    (kt_BadCode : kitsB K C_SerialError C_BadCode = true)
    (kt_TwoWays : kitsB K C_SerialError C_TwoWays = true)
    (kt_NoMessage : kitsB K C_SerialError C_NoMessage = true)
    (kt_TooMuch : kitsB K C_SerialError C_TooMuch = true)
    (kt_BadLot : kitsB K C_SerialError C_BadLot = true)
    (kt_TooFar : kitsB K C_SerialError C_TooFar = true)
    (kt_TooMany : kitsB K C_SerialError C_TooMany = true)
    (kt_Doubles : kitsB K C_SerialError C_Doubles = true)
    (kt_NotThin : kitsB K C_SerialError C_NotThin = true)
    (kt_BadName : kitsB K C_SerialError C_BadName = true)
    (kt_NameTaken : kitsB K C_SerialError C_NameTaken = true)
    (kt_NoBook : kitsB K C_SerialError C_NoBook = true)
    (kt_NoName : kitsB K C_SerialError C_NoName = true)
    (kt_NoWordLeft : kitsB K C_SerialError C_NoWordLeft = true)
    (kt_IssuedBefore : kitsB K C_SerialError C_IssuedBefore = true)
    (kt_NotDrawn : kitsB K C_SerialError C_NotDrawn = true)
    (kt_NotInForce : kitsB K C_SerialError C_NotInForce = true)
    (kt_BadSign : kitsB K C_SerialError C_BadSign = true)
    (kt_StillInForce : kitsB K C_SerialError C_StillInForce = true)
    (kt_BadDeed : kitsB K C_SerialError C_BadDeed = true)
    (kt_HasBeginnings : kitsB K C_SerialError C_HasBeginnings = true)
    (kt_NothingToUndo : kitsB K C_SerialError C_NothingToUndo = true)
    (kt_InvalidCommand : kitsB K C_SerialError C_InvalidCommand = true)
    (ap : apartB K [C_BadFormat, C_BadSheet, C_BadText, C_BadLetters, C_NotIn, C_TooLong, C_UnlikeRows, C_NoWords, C_Endless, C_Uneven, C_BadCode, C_TwoWays, C_NoMessage, C_TooMuch, C_BadLot, C_TooFar, C_TooMany, C_Doubles, C_NotThin, C_BadName, C_NameTaken, C_NoBook, C_NoName, C_NoWordLeft, C_IssuedBefore, C_NotDrawn, C_NotInForce, C_BadSign, C_StillInForce, C_BadDeed, C_HasBeginnings, C_NothingToUndo, C_InvalidCommand] = true)
    (e1 : PySem.W.exmOne K (.ref C_NotInForce) (.ref C_StillInForce) = some false)
    (e2 : PySem.W.exmOne K (.ref C_NotInForce) (.ref C_SerialError) = some true)
    (a_BadFormat___init__ : PySem.W.findIn K (.ref C_BadFormat) "__init__" = some (some (.ref f_BadFormat___init__))) (i_BadFormat___init__ : PySem.W.isFn K (.ref f_BadFormat___init__) = true) (F_BadFormat___init__ : Fun K "__init__" "BadFormat.__init__" s_BadFormat___init__ f_BadFormat___init__ fd_BadFormat___init__)
    (a_BadSheet___init__ : PySem.W.findIn K (.ref C_BadSheet) "__init__" = some (some (.ref f_BadSheet___init__))) (i_BadSheet___init__ : PySem.W.isFn K (.ref f_BadSheet___init__) = true) (F_BadSheet___init__ : Fun K "__init__" "BadSheet.__init__" s_BadSheet___init__ f_BadSheet___init__ fd_BadSheet___init__)
    (a_BadText___init__ : PySem.W.findIn K (.ref C_BadText) "__init__" = some (some (.ref f_BadText___init__))) (i_BadText___init__ : PySem.W.isFn K (.ref f_BadText___init__) = true) (F_BadText___init__ : Fun K "__init__" "BadText.__init__" s_BadText___init__ f_BadText___init__ fd_BadText___init__)
    (a_BadLetters___init__ : PySem.W.findIn K (.ref C_BadLetters) "__init__" = some (some (.ref f_BadLetters___init__))) (i_BadLetters___init__ : PySem.W.isFn K (.ref f_BadLetters___init__) = true) (F_BadLetters___init__ : Fun K "__init__" "BadLetters.__init__" s_BadLetters___init__ f_BadLetters___init__ fd_BadLetters___init__)
    (a_NotIn___init__ : PySem.W.findIn K (.ref C_NotIn) "__init__" = some (some (.ref f_NotIn___init__))) (i_NotIn___init__ : PySem.W.isFn K (.ref f_NotIn___init__) = true) (F_NotIn___init__ : Fun K "__init__" "NotIn.__init__" s_NotIn___init__ f_NotIn___init__ fd_NotIn___init__)
    (a_TooLong___init__ : PySem.W.findIn K (.ref C_TooLong) "__init__" = some (some (.ref f_TooLong___init__))) (i_TooLong___init__ : PySem.W.isFn K (.ref f_TooLong___init__) = true) (F_TooLong___init__ : Fun K "__init__" "TooLong.__init__" s_TooLong___init__ f_TooLong___init__ fd_TooLong___init__)
    (a_UnlikeRows___init__ : PySem.W.findIn K (.ref C_UnlikeRows) "__init__" = some (some (.ref f_UnlikeRows___init__))) (i_UnlikeRows___init__ : PySem.W.isFn K (.ref f_UnlikeRows___init__) = true) (F_UnlikeRows___init__ : Fun K "__init__" "UnlikeRows.__init__" s_UnlikeRows___init__ f_UnlikeRows___init__ fd_UnlikeRows___init__)
    (a_NoWords___init__ : PySem.W.findIn K (.ref C_NoWords) "__init__" = some (some (.ref f_NoWords___init__))) (i_NoWords___init__ : PySem.W.isFn K (.ref f_NoWords___init__) = true) (F_NoWords___init__ : Fun K "__init__" "NoWords.__init__" s_NoWords___init__ f_NoWords___init__ fd_NoWords___init__)
    (a_Endless___init__ : PySem.W.findIn K (.ref C_Endless) "__init__" = some (some (.ref f_Endless___init__))) (i_Endless___init__ : PySem.W.isFn K (.ref f_Endless___init__) = true) (F_Endless___init__ : Fun K "__init__" "Endless.__init__" s_Endless___init__ f_Endless___init__ fd_Endless___init__)
    (a_Uneven___init__ : PySem.W.findIn K (.ref C_Uneven) "__init__" = some (some (.ref f_Uneven___init__))) (i_Uneven___init__ : PySem.W.isFn K (.ref f_Uneven___init__) = true) (F_Uneven___init__ : Fun K "__init__" "Uneven.__init__" s_Uneven___init__ f_Uneven___init__ fd_Uneven___init__)
    (a_BadCode___init__ : PySem.W.findIn K (.ref C_BadCode) "__init__" = some (some (.ref f_BadCode___init__))) (i_BadCode___init__ : PySem.W.isFn K (.ref f_BadCode___init__) = true) (F_BadCode___init__ : Fun K "__init__" "BadCode.__init__" s_BadCode___init__ f_BadCode___init__ fd_BadCode___init__)
    (a_TwoWays___init__ : PySem.W.findIn K (.ref C_TwoWays) "__init__" = some (some (.ref f_TwoWays___init__))) (i_TwoWays___init__ : PySem.W.isFn K (.ref f_TwoWays___init__) = true) (F_TwoWays___init__ : Fun K "__init__" "TwoWays.__init__" s_TwoWays___init__ f_TwoWays___init__ fd_TwoWays___init__)
    (a_NoMessage___init__ : PySem.W.findIn K (.ref C_NoMessage) "__init__" = some (some (.ref f_NoMessage___init__))) (i_NoMessage___init__ : PySem.W.isFn K (.ref f_NoMessage___init__) = true) (F_NoMessage___init__ : Fun K "__init__" "NoMessage.__init__" s_NoMessage___init__ f_NoMessage___init__ fd_NoMessage___init__)
    (a_HasBeginnings___init__ : PySem.W.findIn K (.ref C_HasBeginnings) "__init__" = some (some (.ref f_HasBeginnings___init__))) (i_HasBeginnings___init__ : PySem.W.isFn K (.ref f_HasBeginnings___init__) = true) (F_HasBeginnings___init__ : Fun K "__init__" "HasBeginnings.__init__" s_HasBeginnings___init__ f_HasBeginnings___init__ fd_HasBeginnings___init__)
    (a_TooMuch___init__ : PySem.W.findIn K (.ref C_TooMuch) "__init__" = some (some (.ref f_TooMuch___init__))) (i_TooMuch___init__ : PySem.W.isFn K (.ref f_TooMuch___init__) = true) (F_TooMuch___init__ : Fun K "__init__" "TooMuch.__init__" s_TooMuch___init__ f_TooMuch___init__ fd_TooMuch___init__)
    (a_BadLot___init__ : PySem.W.findIn K (.ref C_BadLot) "__init__" = some (some (.ref f_BadLot___init__))) (i_BadLot___init__ : PySem.W.isFn K (.ref f_BadLot___init__) = true) (F_BadLot___init__ : Fun K "__init__" "BadLot.__init__" s_BadLot___init__ f_BadLot___init__ fd_BadLot___init__)
    (a_TooFar___init__ : PySem.W.findIn K (.ref C_TooFar) "__init__" = some (some (.ref f_TooFar___init__))) (i_TooFar___init__ : PySem.W.isFn K (.ref f_TooFar___init__) = true) (F_TooFar___init__ : Fun K "__init__" "TooFar.__init__" s_TooFar___init__ f_TooFar___init__ fd_TooFar___init__)
    (a_TooMany___init__ : PySem.W.findIn K (.ref C_TooMany) "__init__" = some (some (.ref f_TooMany___init__))) (i_TooMany___init__ : PySem.W.isFn K (.ref f_TooMany___init__) = true) (F_TooMany___init__ : Fun K "__init__" "TooMany.__init__" s_TooMany___init__ f_TooMany___init__ fd_TooMany___init__)
    (a_Doubles___init__ : PySem.W.findIn K (.ref C_Doubles) "__init__" = some (some (.ref f_Doubles___init__))) (i_Doubles___init__ : PySem.W.isFn K (.ref f_Doubles___init__) = true) (F_Doubles___init__ : Fun K "__init__" "Doubles.__init__" s_Doubles___init__ f_Doubles___init__ fd_Doubles___init__)
    (a_NotThin___init__ : PySem.W.findIn K (.ref C_NotThin) "__init__" = some (some (.ref f_NotThin___init__))) (i_NotThin___init__ : PySem.W.isFn K (.ref f_NotThin___init__) = true) (F_NotThin___init__ : Fun K "__init__" "NotThin.__init__" s_NotThin___init__ f_NotThin___init__ fd_NotThin___init__)
    (a_BadName___init__ : PySem.W.findIn K (.ref C_BadName) "__init__" = some (some (.ref f_BadName___init__))) (i_BadName___init__ : PySem.W.isFn K (.ref f_BadName___init__) = true) (F_BadName___init__ : Fun K "__init__" "BadName.__init__" s_BadName___init__ f_BadName___init__ fd_BadName___init__)
    (a_NameTaken___init__ : PySem.W.findIn K (.ref C_NameTaken) "__init__" = some (some (.ref f_NameTaken___init__))) (i_NameTaken___init__ : PySem.W.isFn K (.ref f_NameTaken___init__) = true) (F_NameTaken___init__ : Fun K "__init__" "NameTaken.__init__" s_NameTaken___init__ f_NameTaken___init__ fd_NameTaken___init__)
    (a_NoBook___init__ : PySem.W.findIn K (.ref C_NoBook) "__init__" = some (some (.ref f_NoBook___init__))) (i_NoBook___init__ : PySem.W.isFn K (.ref f_NoBook___init__) = true) (F_NoBook___init__ : Fun K "__init__" "NoBook.__init__" s_NoBook___init__ f_NoBook___init__ fd_NoBook___init__)
    (a_NoName___init__ : PySem.W.findIn K (.ref C_NoName) "__init__" = some (some (.ref f_NoName___init__))) (i_NoName___init__ : PySem.W.isFn K (.ref f_NoName___init__) = true) (F_NoName___init__ : Fun K "__init__" "NoName.__init__" s_NoName___init__ f_NoName___init__ fd_NoName___init__)
    (a_NoWordLeft___init__ : PySem.W.findIn K (.ref C_NoWordLeft) "__init__" = some (some (.ref f_NoWordLeft___init__))) (i_NoWordLeft___init__ : PySem.W.isFn K (.ref f_NoWordLeft___init__) = true) (F_NoWordLeft___init__ : Fun K "__init__" "NoWordLeft.__init__" s_NoWordLeft___init__ f_NoWordLeft___init__ fd_NoWordLeft___init__)
    (a_IssuedBefore___init__ : PySem.W.findIn K (.ref C_IssuedBefore) "__init__" = some (some (.ref f_IssuedBefore___init__))) (i_IssuedBefore___init__ : PySem.W.isFn K (.ref f_IssuedBefore___init__) = true) (F_IssuedBefore___init__ : Fun K "__init__" "IssuedBefore.__init__" s_IssuedBefore___init__ f_IssuedBefore___init__ fd_IssuedBefore___init__)
    (a_NotDrawn___init__ : PySem.W.findIn K (.ref C_NotDrawn) "__init__" = some (some (.ref f_NotDrawn___init__))) (i_NotDrawn___init__ : PySem.W.isFn K (.ref f_NotDrawn___init__) = true) (F_NotDrawn___init__ : Fun K "__init__" "NotDrawn.__init__" s_NotDrawn___init__ f_NotDrawn___init__ fd_NotDrawn___init__)
    (a_NotInForce___init__ : PySem.W.findIn K (.ref C_NotInForce) "__init__" = some (some (.ref f_NotInForce___init__))) (i_NotInForce___init__ : PySem.W.isFn K (.ref f_NotInForce___init__) = true) (F_NotInForce___init__ : Fun K "__init__" "NotInForce.__init__" s_NotInForce___init__ f_NotInForce___init__ fd_NotInForce___init__)
    (a_BadSign___init__ : PySem.W.findIn K (.ref C_BadSign) "__init__" = some (some (.ref f_BadSign___init__))) (i_BadSign___init__ : PySem.W.isFn K (.ref f_BadSign___init__) = true) (F_BadSign___init__ : Fun K "__init__" "BadSign.__init__" s_BadSign___init__ f_BadSign___init__ fd_BadSign___init__)
    (a_StillInForce___init__ : PySem.W.findIn K (.ref C_StillInForce) "__init__" = some (some (.ref f_StillInForce___init__))) (i_StillInForce___init__ : PySem.W.isFn K (.ref f_StillInForce___init__) = true) (F_StillInForce___init__ : Fun K "__init__" "StillInForce.__init__" s_StillInForce___init__ f_StillInForce___init__ fd_StillInForce___init__)
    (a_BadDeed___init__ : PySem.W.findIn K (.ref C_BadDeed) "__init__" = some (some (.ref f_BadDeed___init__))) (i_BadDeed___init__ : PySem.W.isFn K (.ref f_BadDeed___init__) = true) (F_BadDeed___init__ : Fun K "__init__" "BadDeed.__init__" s_BadDeed___init__ f_BadDeed___init__ fd_BadDeed___init__)
    (a_is_word : PySem.W.nsIn K mainGlobals "is_word" = some (some (.ref f_is_word))) (F_is_word : Fun K "is_word" "is_word" s_is_word f_is_word fd_is_word)
    (a_is_ahead : PySem.W.nsIn K mainGlobals "is_ahead" = some (some (.ref f_is_ahead))) (F_is_ahead : Fun K "is_ahead" "is_ahead" s_is_ahead f_is_ahead fd_is_ahead)
    (a_common_beginning : PySem.W.nsIn K mainGlobals "common_beginning" = some (some (.ref f_common_beginning))) (F_common_beginning : Fun K "common_beginning" "common_beginning" s_common_beginning f_common_beginning fd_common_beginning)
    (a__law_deck : PySem.W.nsIn K mainGlobals "_law_deck" = some (some (.ref f__law_deck))) (F__law_deck : Fun K "_law_deck" "_law_deck" s__law_deck f__law_deck fd__law_deck)
    (a__law_draw : PySem.W.nsIn K mainGlobals "_law_draw" = some (some (.ref f__law_draw))) (F__law_draw : Fun K "_law_draw" "_law_draw" s__law_draw f__law_draw fd__law_draw)
    (a__law_pick : PySem.W.nsIn K mainGlobals "_law_pick" = some (some (.ref f__law_pick))) (F__law_pick : Fun K "_law_pick" "_law_pick" s__law_pick f__law_pick fd__law_pick)
    (a__law_word : PySem.W.nsIn K mainGlobals "_law_word" = some (some (.ref f__law_word))) (F__law_word : Fun K "_law_word" "_law_word" s__law_word f__law_word fd__law_word)
    (a__law_common : PySem.W.nsIn K mainGlobals "_law_common" = some (some (.ref f__law_common))) (F__law_common : Fun K "_law_common" "_law_common" s__law_common f__law_common fd__law_common)
    (a__law_two_right : PySem.W.nsIn K mainGlobals "_law_two_right" = some (some (.ref f__law_two_right))) (F__law_two_right : Fun K "_law_two_right" "_law_two_right" s__law_two_right f__law_two_right fd__law_two_right)
    (a__law_errors_one : PySem.W.nsIn K mainGlobals "_law_errors_one" = some (some (.ref f__law_errors_one))) (F__law_errors_one : Fun K "_law_errors_one" "_law_errors_one" s__law_errors_one f__law_errors_one fd__law_errors_one)
    (a__law_errors_two : PySem.W.nsIn K mainGlobals "_law_errors_two" = some (some (.ref f__law_errors_two))) (F__law_errors_two : Fun K "_law_errors_two" "_law_errors_two" s__law_errors_two f__law_errors_two fd__law_errors_two)
    (a__law_errors_three : PySem.W.nsIn K mainGlobals "_law_errors_three" = some (some (.ref f__law_errors_three))) (F__law_errors_three : Fun K "_law_errors_three" "_law_errors_three" s__law_errors_three f__law_errors_three fd__law_errors_three)
    (a__law_kinds : PySem.W.nsIn K mainGlobals "_law_kinds" = some (some (.ref f__law_kinds))) (F__law_kinds : Fun K "_law_kinds" "_law_kinds" s__law_kinds f__law_kinds fd__law_kinds)
    (a__law_is_alone : PySem.W.nsIn K mainGlobals "_law_is_alone" = some (some (.ref f__law_is_alone))) (F__law_is_alone : Fun K "_law_is_alone" "_law_is_alone" s__law_is_alone f__law_is_alone fd__law_is_alone)
    (a__law_errors_right : PySem.W.nsIn K mainGlobals "_law_errors_right" = some (some (.ref f__law_errors_right))) (F__law_errors_right : Fun K "_law_errors_right" "_law_errors_right" s__law_errors_right f__law_errors_right fd__law_errors_right)
    (a__law_is_caught : PySem.W.nsIn K mainGlobals "_law_is_caught" = some (some (.ref f__law_is_caught))) (F__law_is_caught : Fun K "_law_is_caught" "_law_is_caught" s__law_is_caught f__law_is_caught fd__law_is_caught)
    (a_law : PySem.W.nsIn K mainGlobals "law" = some (some (.ref f_law))) (F_law : Fun K "law" "law" s_law f_law fd_law)
    (z_all : PySem.W.nsIn K mainGlobals "all" = some none) (z_bool : PySem.W.nsIn K mainGlobals "bool" = some none) (z_dict : PySem.W.nsIn K mainGlobals "dict" = some none) (z_enumerate : PySem.W.nsIn K mainGlobals "enumerate" = some none) (z_int : PySem.W.nsIn K mainGlobals "int" = some none) (z_isinstance : PySem.W.nsIn K mainGlobals "isinstance" = some none) (z_len : PySem.W.nsIn K mainGlobals "len" = some none) (z_list : PySem.W.nsIn K mainGlobals "list" = some none) (z_min : PySem.W.nsIn K mainGlobals "min" = some none) (z_range : PySem.W.nsIn K mainGlobals "range" = some none) (z_repr : PySem.W.nsIn K mainGlobals "repr" = some none) (z_str : PySem.W.nsIn K mainGlobals "str" = some none) (z_tuple : PySem.W.nsIn K mainGlobals "tuple" = some none) (z_zip : PySem.W.nsIn K mainGlobals "zip" = some none) (z_ValueError : PySem.W.nsIn K mainGlobals "ValueError" = some none) (z_LookupError : PySem.W.nsIn K mainGlobals "LookupError" = some none) (z_ArithmeticError : PySem.W.nsIn K mainGlobals "ArithmeticError" = some none) (z_Exception : PySem.W.nsIn K mainGlobals "Exception" = some none) (z_TypeError : PySem.W.nsIn K mainGlobals "TypeError" = some none) :
    (∀ (s : Shared) (v : Value), BindsTo s fd_law ⟨[v], []⟩ [("_law_script", v)]) ∧ ∀ base : Heap, K.In base → base.Ns mainGlobals mg → base.NoDigits → GFn l.prog w K mg base CX0 5 fa fd_law ["_law_script"] (spLaw K) := by
  have e := hfa.symm.trans (PySem.W.mg_of X G a_law)
  cases e
  have k_BadFormat___init__ := F_BadFormat___init__.kp
  have b_BadFormat___init__ := F_BadFormat___init__.binds (ps := ["self", "part"]) fun _ _ _ _ _ _ us hl => match us, hl with | [_, _], _ => rfl
  have k_BadSheet___init__ := F_BadSheet___init__.kp
  have b_BadSheet___init__ := F_BadSheet___init__.binds (ps := ["self", "part"]) fun _ _ _ _ _ _ us hl => match us, hl with | [_, _], _ => rfl
  have k_BadText___init__ := F_BadText___init__.kp
  have b_BadText___init__ := F_BadText___init__.binds (ps := ["self", "place"]) fun _ _ _ _ _ _ us hl => match us, hl with | [_, _], _ => rfl
  have k_BadLetters___init__ := F_BadLetters___init__.kp
  have b_BadLetters___init__ := F_BadLetters___init__.binds (ps := ["self", "pairs"]) fun _ _ _ _ _ _ us hl => match us, hl with | [_, _], _ => rfl
  have k_NotIn___init__ := F_NotIn___init__.kp
  have b_NotIn___init__ := F_NotIn___init__.binds (ps := ["self", "word"]) fun _ _ _ _ _ _ us hl => match us, hl with | [_, _], _ => rfl
  have k_TooLong___init__ := F_TooLong___init__.kp
  have b_TooLong___init__ := F_TooLong___init__.binds (ps := ["self", "most"]) fun _ _ _ _ _ _ us hl => match us, hl with | [_, _], _ => rfl
  have k_UnlikeRows___init__ := F_UnlikeRows___init__.kp
  have b_UnlikeRows___init__ := F_UnlikeRows___init__.binds (ps := ["self", "length"]) fun _ _ _ _ _ _ us hl => match us, hl with | [_, _], _ => rfl
  have k_NoWords___init__ := F_NoWords___init__.kp
  have b_NoWords___init__ := F_NoWords___init__.binds (ps := ["self", "length"]) fun _ _ _ _ _ _ us hl => match us, hl with | [_, _], _ => rfl
  have k_Endless___init__ := F_Endless___init__.kp
  have b_Endless___init__ := F_Endless___init__.binds (ps := ["self", "paper"]) fun _ _ _ _ _ _ us hl => match us, hl with | [_, _], _ => rfl
  have k_Uneven___init__ := F_Uneven___init__.kp
  have b_Uneven___init__ := F_Uneven___init__.binds (ps := ["self", "shares"]) fun _ _ _ _ _ _ us hl => match us, hl with | [_, _], _ => rfl
  have k_BadCode___init__ := F_BadCode___init__.kp
  have b_BadCode___init__ := F_BadCode___init__.binds (ps := ["self", "part"]) fun _ _ _ _ _ _ us hl => match us, hl with | [_, _], _ => rfl
  have k_TwoWays___init__ := F_TwoWays___init__.kp
  have b_TwoWays___init__ := F_TwoWays___init__.binds (ps := ["self", "paper"]) fun _ _ _ _ _ _ us hl => match us, hl with | [_, _], _ => rfl
  have k_NoMessage___init__ := F_NoMessage___init__.kp
  have b_NoMessage___init__ := F_NoMessage___init__.binds (ps := ["self", "place"]) fun _ _ _ _ _ _ us hl => match us, hl with | [_, _], _ => rfl
  have k_HasBeginnings___init__ := F_HasBeginnings___init__.kp
  have b_HasBeginnings___init__ := F_HasBeginnings___init__.binds (ps := ["self", "one", "other"]) fun _ _ _ _ _ _ us hl => match us, hl with | [_, _, _], _ => rfl
  have k_TooMuch___init__ := F_TooMuch___init__.kp
  have b_TooMuch___init__ := F_TooMuch___init__.binds (ps := ["self", "share"]) fun _ _ _ _ _ _ us hl => match us, hl with | [_, _], _ => rfl
  have k_BadLot___init__ := F_BadLot___init__.kp
  have b_BadLot___init__ := F_BadLot___init__.binds (ps := ["self", "part"]) fun _ _ _ _ _ _ us hl => match us, hl with | [_, _], _ => rfl
  have k_TooFar___init__ := F_TooFar___init__.kp
  have b_TooFar___init__ := F_TooFar___init__.binds (ps := ["self", "most"]) fun _ _ _ _ _ _ us hl => match us, hl with | [_, _], _ => rfl
  have k_TooMany___init__ := F_TooMany___init__.kp
  have b_TooMany___init__ := F_TooMany___init__.binds (ps := ["self", "most"]) fun _ _ _ _ _ _ us hl => match us, hl with | [_, _], _ => rfl
  have k_Doubles___init__ := F_Doubles___init__.kp
  have b_Doubles___init__ := F_Doubles___init__.binds (ps := ["self", "paper"]) fun _ _ _ _ _ _ us hl => match us, hl with | [_, _], _ => rfl
  have k_NotThin___init__ := F_NotThin___init__.kp
  have b_NotThin___init__ := F_NotThin___init__.binds (ps := ["self", "paper"]) fun _ _ _ _ _ _ us hl => match us, hl with | [_, _], _ => rfl
  have k_BadName___init__ := F_BadName___init__.kp
  have b_BadName___init__ := F_BadName___init__.binds (ps := ["self", "name"]) fun _ _ _ _ _ _ us hl => match us, hl with | [_, _], _ => rfl
  have k_NameTaken___init__ := F_NameTaken___init__.kp
  have b_NameTaken___init__ := F_NameTaken___init__.binds (ps := ["self", "name"]) fun _ _ _ _ _ _ us hl => match us, hl with | [_, _], _ => rfl
  have k_NoBook___init__ := F_NoBook___init__.kp
  have b_NoBook___init__ := F_NoBook___init__.binds (ps := ["self", "name"]) fun _ _ _ _ _ _ us hl => match us, hl with | [_, _], _ => rfl
  have k_NoName___init__ := F_NoName___init__.kp
  have b_NoName___init__ := F_NoName___init__.binds (ps := ["self", "name"]) fun _ _ _ _ _ _ us hl => match us, hl with | [_, _], _ => rfl
  have k_NoWordLeft___init__ := F_NoWordLeft___init__.kp
  have b_NoWordLeft___init__ := F_NoWordLeft___init__.binds (ps := ["self", "name"]) fun _ _ _ _ _ _ us hl => match us, hl with | [_, _], _ => rfl
  have k_IssuedBefore___init__ := F_IssuedBefore___init__.kp
  have b_IssuedBefore___init__ := F_IssuedBefore___init__.binds (ps := ["self", "word"]) fun _ _ _ _ _ _ us hl => match us, hl with | [_, _], _ => rfl
  have k_NotDrawn___init__ := F_NotDrawn___init__.kp
  have b_NotDrawn___init__ := F_NotDrawn___init__.binds (ps := ["self", "tosses"]) fun _ _ _ _ _ _ us hl => match us, hl with | [_, _], _ => rfl
  have k_NotInForce___init__ := F_NotInForce___init__.kp
  have b_NotInForce___init__ := F_NotInForce___init__.binds (ps := ["self", "word"]) fun _ _ _ _ _ _ us hl => match us, hl with | [_, _], _ => rfl
  have k_BadSign___init__ := F_BadSign___init__.kp
  have b_BadSign___init__ := F_BadSign___init__.binds (ps := ["self", "sign"]) fun _ _ _ _ _ _ us hl => match us, hl with | [_, _], _ => rfl
  have k_StillInForce___init__ := F_StillInForce___init__.kp
  have b_StillInForce___init__ := F_StillInForce___init__.binds (ps := ["self", "word"]) fun _ _ _ _ _ _ us hl => match us, hl with | [_, _], _ => rfl
  have k_BadDeed___init__ := F_BadDeed___init__.kp
  have b_BadDeed___init__ := F_BadDeed___init__.binds (ps := ["self", "number"]) fun _ _ _ _ _ _ us hl => match us, hl with | [_, _], _ => rfl
  have k_is_word := F_is_word.kp
  have b_is_word := F_is_word.binds (ps := ["thing"]) fun _ _ _ _ _ _ us hl => match us, hl with | [_], _ => rfl
  have m_is_word := PySem.W.mg_of X G a_is_word
  have k_is_ahead := F_is_ahead.kp
  have b_is_ahead := F_is_ahead.binds (ps := ["one", "other"]) fun _ _ _ _ _ _ us hl => match us, hl with | [_, _], _ => rfl
  have m_is_ahead := PySem.W.mg_of X G a_is_ahead
  have k_common_beginning := F_common_beginning.kp
  have b_common_beginning := F_common_beginning.binds (ps := ["one", "other"]) fun _ _ _ _ _ _ us hl => match us, hl with | [_, _], _ => rfl
  have m_common_beginning := PySem.W.mg_of X G a_common_beginning
  have k__law_deck := F__law_deck.kp
  have b__law_deck := F__law_deck.binds (ps := ["_law_script"]) fun _ _ _ _ _ _ us hl => match us, hl with | [_], _ => rfl
  have m__law_deck := PySem.W.mg_of X G a__law_deck
  have k__law_draw := F__law_draw.kp
  have b__law_draw := F__law_draw.binds (ps := ["_law_deck_here", "_law_below"]) fun _ _ _ _ _ _ us hl => match us, hl with | [_, _], _ => rfl
  have m__law_draw := PySem.W.mg_of X G a__law_draw
  have k__law_pick := F__law_pick.kp
  have b__law_pick := F__law_pick.binds (ps := ["_law_deck_here", "_law_some"]) fun _ _ _ _ _ _ us hl => match us, hl with | [_, _], _ => rfl
  have m__law_pick := PySem.W.mg_of X G a__law_pick
  have k__law_word := F__law_word.kp
  have b__law_word := F__law_word.binds (ps := ["_law_deck_here", "_law_top"]) fun _ _ _ _ _ _ us hl => match us, hl with | [_, _], _ => rfl
  have m__law_word := PySem.W.mg_of X G a__law_word
  have k__law_common := F__law_common.kp
  have b__law_common := F__law_common.binds (ps := ["_law_own", "_law_mate"]) fun _ _ _ _ _ _ us hl => match us, hl with | [_, _], _ => rfl
  have m__law_common := PySem.W.mg_of X G a__law_common
  have k__law_two_right := F__law_two_right.kp
  have b__law_two_right := F__law_two_right.binds (ps := ["_law_own", "_law_mate"]) fun _ _ _ _ _ _ us hl => match us, hl with | [_, _], _ => rfl
  have m__law_two_right := PySem.W.mg_of X G a__law_two_right
  have k__law_errors_one := F__law_errors_one.kp
  have b__law_errors_one := F__law_errors_one.binds (ps := ["_law_a", "_law_b"]) fun _ _ _ _ _ _ us hl => match us, hl with | [_, _], _ => rfl
  have m__law_errors_one := PySem.W.mg_of X G a__law_errors_one
  have k__law_errors_two := F__law_errors_two.kp
  have b__law_errors_two := F__law_errors_two.binds (ps := ["_law_a", "_law_b"]) fun _ _ _ _ _ _ us hl => match us, hl with | [_, _], _ => rfl
  have m__law_errors_two := PySem.W.mg_of X G a__law_errors_two
  have k__law_errors_three := F__law_errors_three.kp
  have b__law_errors_three := F__law_errors_three.binds (ps := ["_law_a", "_law_b"]) fun _ _ _ _ _ _ us hl => match us, hl with | [_, _], _ => rfl
  have m__law_errors_three := PySem.W.mg_of X G a__law_errors_three
  have k__law_kinds := F__law_kinds.kp
  have b__law_kinds := F__law_kinds.binds (ps := ["_law_e"]) fun _ _ _ _ _ _ us hl => match us, hl with | [_], _ => rfl
  have m__law_kinds := PySem.W.mg_of X G a__law_kinds
  have k__law_is_alone := F__law_is_alone.kp
  have b__law_is_alone := F__law_is_alone.binds (ps := ["_law_e", "_law_at"]) fun _ _ _ _ _ _ us hl => match us, hl with | [_, _], _ => rfl
  have m__law_is_alone := PySem.W.mg_of X G a__law_is_alone
  have k__law_errors_right := F__law_errors_right.kp
  have b__law_errors_right := F__law_errors_right.binds (ps := ["_law_deck_here"]) fun _ _ _ _ _ _ us hl => match us, hl with | [_], _ => rfl
  have m__law_errors_right := PySem.W.mg_of X G a__law_errors_right
  have k__law_is_caught := F__law_is_caught.kp
  have b__law_is_caught := F__law_is_caught.binds (ps := ["_law_a"]) fun _ _ _ _ _ _ us hl => match us, hl with | [_], _ => rfl
  have m__law_is_caught := PySem.W.mg_of X G a__law_is_caught
  have k_law := F_law.kp
  have kb_is_ahead_other_one := kb_of (ps := ["one", "other"]) (ks := ["other", "one"]) (g := kwTurn) (gV := kwTurn) F_is_ahead (fun kV doc pm an cdv ct us ws hl => by
    obtain ⟨x, y, rfl, rfl⟩ := kwTurn_args hl
    rfl) kwTurn_rel
  have kb_common_beginning_other_one := kb_of (ps := ["one", "other"]) (ks := ["other", "one"]) (g := kwTurn) (gV := kwTurn) F_common_beginning (fun kV doc pm an cdv ct us ws hl => by
    obtain ⟨x, y, rfl, rfl⟩ := kwTurn_args hl
    rfl) kwTurn_rel
  have kb_is_word_thing := kb_of (ps := ["thing"]) (ks := ["thing"]) (g := kwOne) (gV := kwOne) F_is_word (fun kV doc pm an cdv ct us ws hl => by
    obtain ⟨x, rfl, rfl⟩ := kwOne_args hl
    rfl) kwOne_rel
  have T : Txt mg := ⟨PySem.W.mg_none_of X G z_all, PySem.W.mg_none_of X G z_bool, PySem.W.mg_none_of X G z_dict, PySem.W.mg_none_of X G z_enumerate, PySem.W.mg_none_of X G z_int, PySem.W.mg_none_of X G z_isinstance, PySem.W.mg_none_of X G z_len, PySem.W.mg_none_of X G z_list, PySem.W.mg_none_of X G z_min, PySem.W.mg_none_of X G z_range, PySem.W.mg_none_of X G z_repr, PySem.W.mg_none_of X G z_str, PySem.W.mg_none_of X G z_tuple, PySem.W.mg_none_of X G z_zip, PySem.W.mg_none_of X G z_ValueError, PySem.W.mg_none_of X G z_LookupError, PySem.W.mg_none_of X G z_ArithmeticError, PySem.W.mg_none_of X G z_Exception, PySem.W.mg_none_of X G z_TypeError⟩
  refine ⟨?_, fun base _ _ hdg => ?_⟩
  · obtain ⟨oc, od, kV, doc, pm, an, cdv, ct, osl, rfl, _, _⟩ := F_law.ex
    exact fun s v => .of_eq rfl
  have kb_BadFormat := kb_of (ps := ["self", "part"]) (ks := ["part"]) (g := kwSelf1) (gV := kwSelf1) F_BadFormat___init__ (fun kV doc pm an cdv ct us ws hl => by
    obtain ⟨a, x, rfl, rfl⟩ := kwSelf1_args hl
    rfl) kwSelf1_rel
  have kb_BadSheet := kb_of (ps := ["self", "part"]) (ks := ["part"]) (g := kwSelf1) (gV := kwSelf1) F_BadSheet___init__ (fun kV doc pm an cdv ct us ws hl => by
    obtain ⟨a, x, rfl, rfl⟩ := kwSelf1_args hl
    rfl) kwSelf1_rel
  have kb_BadText := kb_of (ps := ["self", "place"]) (ks := ["place"]) (g := kwSelf1) (gV := kwSelf1) F_BadText___init__ (fun kV doc pm an cdv ct us ws hl => by
    obtain ⟨a, x, rfl, rfl⟩ := kwSelf1_args hl
    rfl) kwSelf1_rel
  have kb_BadLetters := kb_of (ps := ["self", "pairs"]) (ks := ["pairs"]) (g := kwSelf1) (gV := kwSelf1) F_BadLetters___init__ (fun kV doc pm an cdv ct us ws hl => by
    obtain ⟨a, x, rfl, rfl⟩ := kwSelf1_args hl
    rfl) kwSelf1_rel
  have kb_NotIn := kb_of (ps := ["self", "word"]) (ks := ["word"]) (g := kwSelf1) (gV := kwSelf1) F_NotIn___init__ (fun kV doc pm an cdv ct us ws hl => by
    obtain ⟨a, x, rfl, rfl⟩ := kwSelf1_args hl
    rfl) kwSelf1_rel
  have kb_TooLong := kb_of (ps := ["self", "most"]) (ks := ["most"]) (g := kwSelf1) (gV := kwSelf1) F_TooLong___init__ (fun kV doc pm an cdv ct us ws hl => by
    obtain ⟨a, x, rfl, rfl⟩ := kwSelf1_args hl
    rfl) kwSelf1_rel
  have kb_UnlikeRows := kb_of (ps := ["self", "length"]) (ks := ["length"]) (g := kwSelf1) (gV := kwSelf1) F_UnlikeRows___init__ (fun kV doc pm an cdv ct us ws hl => by
    obtain ⟨a, x, rfl, rfl⟩ := kwSelf1_args hl
    rfl) kwSelf1_rel
  have kb_NoWords := kb_of (ps := ["self", "length"]) (ks := ["length"]) (g := kwSelf1) (gV := kwSelf1) F_NoWords___init__ (fun kV doc pm an cdv ct us ws hl => by
    obtain ⟨a, x, rfl, rfl⟩ := kwSelf1_args hl
    rfl) kwSelf1_rel
  have kb_Endless := kb_of (ps := ["self", "paper"]) (ks := ["paper"]) (g := kwSelf1) (gV := kwSelf1) F_Endless___init__ (fun kV doc pm an cdv ct us ws hl => by
    obtain ⟨a, x, rfl, rfl⟩ := kwSelf1_args hl
    rfl) kwSelf1_rel
  have kb_Uneven := kb_of (ps := ["self", "shares"]) (ks := ["shares"]) (g := kwSelf1) (gV := kwSelf1) F_Uneven___init__ (fun kV doc pm an cdv ct us ws hl => by
    obtain ⟨a, x, rfl, rfl⟩ := kwSelf1_args hl
    rfl) kwSelf1_rel
  have kb_BadCode := kb_of (ps := ["self", "part"]) (ks := ["part"]) (g := kwSelf1) (gV := kwSelf1) F_BadCode___init__ (fun kV doc pm an cdv ct us ws hl => by
    obtain ⟨a, x, rfl, rfl⟩ := kwSelf1_args hl
    rfl) kwSelf1_rel
  have kb_TwoWays := kb_of (ps := ["self", "paper"]) (ks := ["paper"]) (g := kwSelf1) (gV := kwSelf1) F_TwoWays___init__ (fun kV doc pm an cdv ct us ws hl => by
    obtain ⟨a, x, rfl, rfl⟩ := kwSelf1_args hl
    rfl) kwSelf1_rel
  have kb_NoMessage := kb_of (ps := ["self", "place"]) (ks := ["place"]) (g := kwSelf1) (gV := kwSelf1) F_NoMessage___init__ (fun kV doc pm an cdv ct us ws hl => by
    obtain ⟨a, x, rfl, rfl⟩ := kwSelf1_args hl
    rfl) kwSelf1_rel
  have kb_TooMuch := kb_of (ps := ["self", "share"]) (ks := ["share"]) (g := kwSelf1) (gV := kwSelf1) F_TooMuch___init__ (fun kV doc pm an cdv ct us ws hl => by
    obtain ⟨a, x, rfl, rfl⟩ := kwSelf1_args hl
    rfl) kwSelf1_rel
  have kb_BadLot := kb_of (ps := ["self", "part"]) (ks := ["part"]) (g := kwSelf1) (gV := kwSelf1) F_BadLot___init__ (fun kV doc pm an cdv ct us ws hl => by
    obtain ⟨a, x, rfl, rfl⟩ := kwSelf1_args hl
    rfl) kwSelf1_rel
  have kb_TooFar := kb_of (ps := ["self", "most"]) (ks := ["most"]) (g := kwSelf1) (gV := kwSelf1) F_TooFar___init__ (fun kV doc pm an cdv ct us ws hl => by
    obtain ⟨a, x, rfl, rfl⟩ := kwSelf1_args hl
    rfl) kwSelf1_rel
  have kb_TooMany := kb_of (ps := ["self", "most"]) (ks := ["most"]) (g := kwSelf1) (gV := kwSelf1) F_TooMany___init__ (fun kV doc pm an cdv ct us ws hl => by
    obtain ⟨a, x, rfl, rfl⟩ := kwSelf1_args hl
    rfl) kwSelf1_rel
  have kb_Doubles := kb_of (ps := ["self", "paper"]) (ks := ["paper"]) (g := kwSelf1) (gV := kwSelf1) F_Doubles___init__ (fun kV doc pm an cdv ct us ws hl => by
    obtain ⟨a, x, rfl, rfl⟩ := kwSelf1_args hl
    rfl) kwSelf1_rel
  have kb_NotThin := kb_of (ps := ["self", "paper"]) (ks := ["paper"]) (g := kwSelf1) (gV := kwSelf1) F_NotThin___init__ (fun kV doc pm an cdv ct us ws hl => by
    obtain ⟨a, x, rfl, rfl⟩ := kwSelf1_args hl
    rfl) kwSelf1_rel
  have kb_BadName := kb_of (ps := ["self", "name"]) (ks := ["name"]) (g := kwSelf1) (gV := kwSelf1) F_BadName___init__ (fun kV doc pm an cdv ct us ws hl => by
    obtain ⟨a, x, rfl, rfl⟩ := kwSelf1_args hl
    rfl) kwSelf1_rel
  have kb_NameTaken := kb_of (ps := ["self", "name"]) (ks := ["name"]) (g := kwSelf1) (gV := kwSelf1) F_NameTaken___init__ (fun kV doc pm an cdv ct us ws hl => by
    obtain ⟨a, x, rfl, rfl⟩ := kwSelf1_args hl
    rfl) kwSelf1_rel
  have kb_NoBook := kb_of (ps := ["self", "name"]) (ks := ["name"]) (g := kwSelf1) (gV := kwSelf1) F_NoBook___init__ (fun kV doc pm an cdv ct us ws hl => by
    obtain ⟨a, x, rfl, rfl⟩ := kwSelf1_args hl
    rfl) kwSelf1_rel
  have kb_NoName := kb_of (ps := ["self", "name"]) (ks := ["name"]) (g := kwSelf1) (gV := kwSelf1) F_NoName___init__ (fun kV doc pm an cdv ct us ws hl => by
    obtain ⟨a, x, rfl, rfl⟩ := kwSelf1_args hl
    rfl) kwSelf1_rel
  have kb_NoWordLeft := kb_of (ps := ["self", "name"]) (ks := ["name"]) (g := kwSelf1) (gV := kwSelf1) F_NoWordLeft___init__ (fun kV doc pm an cdv ct us ws hl => by
    obtain ⟨a, x, rfl, rfl⟩ := kwSelf1_args hl
    rfl) kwSelf1_rel
  have kb_IssuedBefore := kb_of (ps := ["self", "word"]) (ks := ["word"]) (g := kwSelf1) (gV := kwSelf1) F_IssuedBefore___init__ (fun kV doc pm an cdv ct us ws hl => by
    obtain ⟨a, x, rfl, rfl⟩ := kwSelf1_args hl
    rfl) kwSelf1_rel
  have kb_NotDrawn := kb_of (ps := ["self", "tosses"]) (ks := ["tosses"]) (g := kwSelf1) (gV := kwSelf1) F_NotDrawn___init__ (fun kV doc pm an cdv ct us ws hl => by
    obtain ⟨a, x, rfl, rfl⟩ := kwSelf1_args hl
    rfl) kwSelf1_rel
  have kb_NotInForce := kb_of (ps := ["self", "word"]) (ks := ["word"]) (g := kwSelf1) (gV := kwSelf1) F_NotInForce___init__ (fun kV doc pm an cdv ct us ws hl => by
    obtain ⟨a, x, rfl, rfl⟩ := kwSelf1_args hl
    rfl) kwSelf1_rel
  have kb_BadSign := kb_of (ps := ["self", "sign"]) (ks := ["sign"]) (g := kwSelf1) (gV := kwSelf1) F_BadSign___init__ (fun kV doc pm an cdv ct us ws hl => by
    obtain ⟨a, x, rfl, rfl⟩ := kwSelf1_args hl
    rfl) kwSelf1_rel
  have kb_StillInForce := kb_of (ps := ["self", "word"]) (ks := ["word"]) (g := kwSelf1) (gV := kwSelf1) F_StillInForce___init__ (fun kV doc pm an cdv ct us ws hl => by
    obtain ⟨a, x, rfl, rfl⟩ := kwSelf1_args hl
    rfl) kwSelf1_rel
  have kb_BadDeed := kb_of (ps := ["self", "number"]) (ks := ["number"]) (g := kwSelf1) (gV := kwSelf1) F_BadDeed___init__ (fun kV doc pm an cdv ct us ws hl => by
    obtain ⟨a, x, rfl, rfl⟩ := kwSelf1_args hl
    rfl) kwSelf1_rel
  have kb_HasBeginnings := kb_of (ps := ["self", "one", "other"]) (ks := ["other", "one"]) (g := kwSelf) (gV := kwSelf) F_HasBeginnings___init__ (fun kV doc pm an cdv ct us ws hl => by
    obtain ⟨a, x, y, rfl, rfl⟩ := kwSelf_args hl
    rfl) kwSelf_rel
  have X_BadFormat := xcB_ok x_BadFormat
  have X_BadSheet := xcB_ok x_BadSheet
  have X_BadText := xcB_ok x_BadText
  have X_BadLetters := xcB_ok x_BadLetters
  have X_NotIn := xcB_ok x_NotIn
  have X_TooLong := xcB_ok x_TooLong
  have X_UnlikeRows := xcB_ok x_UnlikeRows
  have X_NoWords := xcB_ok x_NoWords
  have X_Endless := xcB_ok x_Endless
  have X_Uneven := xcB_ok x_Uneven
  have X_BadCode := xcB_ok x_BadCode
  have X_TwoWays := xcB_ok x_TwoWays
  have X_NoMessage := xcB_ok x_NoMessage
  have X_TooMuch := xcB_ok x_TooMuch
  have X_BadLot := xcB_ok x_BadLot
  have X_TooFar := xcB_ok x_TooFar
  have X_TooMany := xcB_ok x_TooMany
  have X_Doubles := xcB_ok x_Doubles
  have X_NotThin := xcB_ok x_NotThin
  have X_BadName := xcB_ok x_BadName
  have X_NameTaken := xcB_ok x_NameTaken
  have X_NoBook := xcB_ok x_NoBook
  have X_NoName := xcB_ok x_NoName
  have X_NoWordLeft := xcB_ok x_NoWordLeft
  have X_IssuedBefore := xcB_ok x_IssuedBefore
  have X_NotDrawn := xcB_ok x_NotDrawn
  have X_NotInForce := xcB_ok x_NotInForce
  have X_BadSign := xcB_ok x_BadSign
  have X_StillInForce := xcB_ok x_StillInForce
  have X_BadDeed := xcB_ok x_BadDeed
  have X_HasBeginnings := xcB_ok x_HasBeginnings
  have X_NothingToUndo := xcB_ok x_NothingToUndo
  have X_InvalidCommand := xcB_ok x_InvalidCommand
  have O_BadFormat := ownB_ok o_BadFormat
  have O_BadSheet := ownB_ok o_BadSheet
  have O_BadText := ownB_ok o_BadText
  have O_BadLetters := ownB_ok o_BadLetters
  have O_NotIn := ownB_ok o_NotIn
  have O_TooLong := ownB_ok o_TooLong
  have O_UnlikeRows := ownB_ok o_UnlikeRows
  have O_NoWords := ownB_ok o_NoWords
  have O_Endless := ownB_ok o_Endless
  have O_Uneven := ownB_ok o_Uneven
  have O_BadCode := ownB_ok o_BadCode
  have O_TwoWays := ownB_ok o_TwoWays
  have O_NoMessage := ownB_ok o_NoMessage
  have O_TooMuch := ownB_ok o_TooMuch
  have O_BadLot := ownB_ok o_BadLot
  have O_TooFar := ownB_ok o_TooFar
  have O_TooMany := ownB_ok o_TooMany
  have O_Doubles := ownB_ok o_Doubles
  have O_NotThin := ownB_ok o_NotThin
  have O_BadName := ownB_ok o_BadName
  have O_NameTaken := ownB_ok o_NameTaken
  have O_NoBook := ownB_ok o_NoBook
  have O_NoName := ownB_ok o_NoName
  have O_NoWordLeft := ownB_ok o_NoWordLeft
  have O_IssuedBefore := ownB_ok o_IssuedBefore
  have O_NotDrawn := ownB_ok o_NotDrawn
  have O_NotInForce := ownB_ok o_NotInForce
  have O_BadSign := ownB_ok o_BadSign
  have O_StillInForce := ownB_ok o_StillInForce
  have O_BadDeed := ownB_ok o_BadDeed
  have O_HasBeginnings := ownB_ok o_HasBeginnings
  have U : Kit l.prog w K mg base (fun i => [C_BadFormat, C_BadSheet, C_BadText, C_BadLetters, C_NotIn, C_TooLong, C_UnlikeRows, C_NoWords, C_Endless, C_Uneven, C_BadCode, C_TwoWays, C_NoMessage, C_TooMuch, C_BadLot, C_TooFar, C_TooMany, C_Doubles, C_NotThin, C_BadName, C_NameTaken, C_NoBook, C_NoName, C_NoWordLeft, C_IssuedBefore, C_NotDrawn, C_NotInForce, C_BadSign, C_StillInForce, C_BadDeed, C_HasBeginnings, C_NothingToUndo, C_InvalidCommand].getD i 0) (fun i => [f_BadFormat___init__, f_BadSheet___init__, f_BadText___init__, f_BadLetters___init__, f_NotIn___init__, f_TooLong___init__, f_UnlikeRows___init__, f_NoWords___init__, f_Endless___init__, f_Uneven___init__, f_BadCode___init__, f_TwoWays___init__, f_NoMessage___init__, f_TooMuch___init__, f_BadLot___init__, f_TooFar___init__, f_TooMany___init__, f_Doubles___init__, f_NotThin___init__, f_BadName___init__, f_NameTaken___init__, f_NoBook___init__, f_NoName___init__, f_NoWordLeft___init__, f_IssuedBefore___init__, f_NotDrawn___init__, f_NotInForce___init__, f_BadSign___init__, f_StillInForce___init__, f_BadDeed___init__, f_HasBeginnings___init__].getD i 0) (fun i => [fd_BadFormat___init__, fd_BadSheet___init__, fd_BadText___init__, fd_BadLetters___init__, fd_NotIn___init__, fd_TooLong___init__, fd_UnlikeRows___init__, fd_NoWords___init__, fd_Endless___init__, fd_Uneven___init__, fd_BadCode___init__, fd_TwoWays___init__, fd_NoMessage___init__, fd_TooMuch___init__, fd_BadLot___init__, fd_TooFar___init__, fd_TooMany___init__, fd_Doubles___init__, fd_NotThin___init__, fd_BadName___init__, fd_NameTaken___init__, fd_NoBook___init__, fd_NoName___init__, fd_NoWordLeft___init__, fd_IssuedBefore___init__, fd_NotDrawn___init__, fd_NotInForce___init__, fd_BadSign___init__, fd_StillInForce___init__, fd_BadDeed___init__, fd_HasBeginnings___init__].getD i fd_BadFormat___init__) C_SerialError :=
    { m := (upto1 (upto1 (upto1 (upto1 (upto1 (upto1 (upto1 (upto1 (upto1 (upto1 (upto1 (upto1 (upto1 (upto1 (upto1 (upto1 (upto1 (upto1 (upto1 (upto1 (upto1 (upto1 (upto1 (upto1 (upto1 (upto1 (upto1 (upto1 (upto1 (upto1 (upto1 (upto1 (upto1 upto0 (PySem.W.mg_of X G g_BadFormat)) (PySem.W.mg_of X G g_BadSheet)) (PySem.W.mg_of X G g_BadText)) (PySem.W.mg_of X G g_BadLetters)) (PySem.W.mg_of X G g_NotIn)) (PySem.W.mg_of X G g_TooLong)) (PySem.W.mg_of X G g_UnlikeRows)) (PySem.W.mg_of X G g_NoWords)) (PySem.W.mg_of X G g_Endless)) (PySem.W.mg_of X G g_Uneven)) (PySem.W.mg_of X G g_BadCode)) (PySem.W.mg_of X G g_TwoWays)) (PySem.W.mg_of X G g_NoMessage)) (PySem.W.mg_of X G g_TooMuch)) (PySem.W.mg_of X G g_BadLot)) (PySem.W.mg_of X G g_TooFar)) (PySem.W.mg_of X G g_TooMany)) (PySem.W.mg_of X G g_Doubles)) (PySem.W.mg_of X G g_NotThin)) (PySem.W.mg_of X G g_BadName)) (PySem.W.mg_of X G g_NameTaken)) (PySem.W.mg_of X G g_NoBook)) (PySem.W.mg_of X G g_NoName)) (PySem.W.mg_of X G g_NoWordLeft)) (PySem.W.mg_of X G g_IssuedBefore)) (PySem.W.mg_of X G g_NotDrawn)) (PySem.W.mg_of X G g_NotInForce)) (PySem.W.mg_of X G g_BadSign)) (PySem.W.mg_of X G g_StillInForce)) (PySem.W.mg_of X G g_BadDeed)) (PySem.W.mg_of X G g_HasBeginnings)) (PySem.W.mg_of X G g_NothingToUndo)) (PySem.W.mg_of X G g_InvalidCommand)),
      mS := PySem.W.mg_of X G g_SerialError,
      own := (upto1 (upto1 (upto1 (upto1 (upto1 (upto1 (upto1 (upto1 (upto1 (upto1 (upto1 (upto1 (upto1 (upto1 (upto1 (upto1 (upto1 (upto1 (upto1 (upto1 (upto1 (upto1 (upto1 (upto1 (upto1 (upto1 (upto1 (upto1 (upto1 (upto1 (upto1 upto0 (O_BadFormat)) (O_BadSheet)) (O_BadText)) (O_BadLetters)) (O_NotIn)) (O_TooLong)) (O_UnlikeRows)) (O_NoWords)) (O_Endless)) (O_Uneven)) (O_BadCode)) (O_TwoWays)) (O_NoMessage)) (O_TooMuch)) (O_BadLot)) (O_TooFar)) (O_TooMany)) (O_Doubles)) (O_NotThin)) (O_BadName)) (O_NameTaken)) (O_NoBook)) (O_NoName)) (O_NoWordLeft)) (O_IssuedBefore)) (O_NotDrawn)) (O_NotInForce)) (O_BadSign)) (O_StillInForce)) (O_BadDeed)) (O_HasBeginnings)),
      x := (upto1 (upto1 (upto1 (upto1 (upto1 (upto1 (upto1 (upto1 (upto1 (upto1 (upto1 (upto1 (upto1 (upto1 (upto1 (upto1 (upto1 (upto1 (upto1 (upto1 (upto1 (upto1 (upto1 (upto1 (upto1 (upto1 (upto1 (upto1 (upto1 (upto1 (upto1 (upto1 (upto1 upto0 (X_BadFormat)) (X_BadSheet)) (X_BadText)) (X_BadLetters)) (X_NotIn)) (X_TooLong)) (X_UnlikeRows)) (X_NoWords)) (X_Endless)) (X_Uneven)) (X_BadCode)) (X_TwoWays)) (X_NoMessage)) (X_TooMuch)) (X_BadLot)) (X_TooFar)) (X_TooMany)) (X_Doubles)) (X_NotThin)) (X_BadName)) (X_NameTaken)) (X_NoBook)) (X_NoName)) (X_NoWordLeft)) (X_IssuedBefore)) (X_NotDrawn)) (X_NotInForce)) (X_BadSign)) (X_StillInForce)) (X_BadDeed)) (X_HasBeginnings)) (X_NothingToUndo)) (X_InvalidCommand)),
      i := (upto1 (upto1 (upto1 (upto1 (upto1 (upto1 (upto1 (upto1 (upto1 (upto1 (upto1 (upto1 (upto1 (upto1 (upto1 (upto1 (upto1 (upto1 (upto1 (upto1 (upto1 (upto1 (upto1 (upto1 (upto1 (upto1 (upto1 (upto1 (upto1 (upto1 (upto1 upto0 (a_BadFormat___init__)) (a_BadSheet___init__)) (a_BadText___init__)) (a_BadLetters___init__)) (a_NotIn___init__)) (a_TooLong___init__)) (a_UnlikeRows___init__)) (a_NoWords___init__)) (a_Endless___init__)) (a_Uneven___init__)) (a_BadCode___init__)) (a_TwoWays___init__)) (a_NoMessage___init__)) (a_TooMuch___init__)) (a_BadLot___init__)) (a_TooFar___init__)) (a_TooMany___init__)) (a_Doubles___init__)) (a_NotThin___init__)) (a_BadName___init__)) (a_NameTaken___init__)) (a_NoBook___init__)) (a_NoName___init__)) (a_NoWordLeft___init__)) (a_IssuedBefore___init__)) (a_NotDrawn___init__)) (a_NotInForce___init__)) (a_BadSign___init__)) (a_StillInForce___init__)) (a_BadDeed___init__)) (a_HasBeginnings___init__)),
      t := (upto1 (upto1 (upto1 (upto1 (upto1 (upto1 (upto1 (upto1 (upto1 (upto1 (upto1 (upto1 (upto1 (upto1 (upto1 (upto1 (upto1 (upto1 (upto1 (upto1 (upto1 (upto1 (upto1 (upto1 (upto1 (upto1 (upto1 (upto1 (upto1 (upto1 (upto1 upto0 (isFn_type i_BadFormat___init__)) (isFn_type i_BadSheet___init__)) (isFn_type i_BadText___init__)) (isFn_type i_BadLetters___init__)) (isFn_type i_NotIn___init__)) (isFn_type i_TooLong___init__)) (isFn_type i_UnlikeRows___init__)) (isFn_type i_NoWords___init__)) (isFn_type i_Endless___init__)) (isFn_type i_Uneven___init__)) (isFn_type i_BadCode___init__)) (isFn_type i_TwoWays___init__)) (isFn_type i_NoMessage___init__)) (isFn_type i_TooMuch___init__)) (isFn_type i_BadLot___init__)) (isFn_type i_TooFar___init__)) (isFn_type i_TooMany___init__)) (isFn_type i_Doubles___init__)) (isFn_type i_NotThin___init__)) (isFn_type i_BadName___init__)) (isFn_type i_NameTaken___init__)) (isFn_type i_NoBook___init__)) (isFn_type i_NoName___init__)) (isFn_type i_NoWordLeft___init__)) (isFn_type i_IssuedBefore___init__)) (isFn_type i_NotDrawn___init__)) (isFn_type i_NotInForce___init__)) (isFn_type i_BadSign___init__)) (isFn_type i_StillInForce___init__)) (isFn_type i_BadDeed___init__)) (isFn_type i_HasBeginnings___init__)),
      no := (upto1 (upto1 (upto1 (upto1 (upto1 (upto1 (upto1 (upto1 (upto1 (upto1 (upto1 (upto1 (upto1 (upto1 (upto1 (upto1 (upto1 (upto1 (upto1 (upto1 (upto1 (upto1 (upto1 (upto1 (upto1 (upto1 (upto1 (upto1 (upto1 (upto1 upto0 (n_BadFormat)) (n_BadSheet)) (n_BadText)) (n_BadLetters)) (n_NotIn)) (n_TooLong)) (n_UnlikeRows)) (n_NoWords)) (n_Endless)) (n_Uneven)) (n_BadCode)) (n_TwoWays)) (n_NoMessage)) (n_TooMuch)) (n_BadLot)) (n_TooFar)) (n_TooMany)) (n_Doubles)) (n_NotThin)) (n_BadName)) (n_NameTaken)) (n_NoBook)) (n_NoName)) (n_NoWordLeft)) (n_IssuedBefore)) (n_NotDrawn)) (n_NotInForce)) (n_BadSign)) (n_StillInForce)) (n_BadDeed)),
      G := (upto1 (upto1 (upto1 (upto1 (upto1 (upto1 (upto1 (upto1 (upto1 (upto1 (upto1 (upto1 (upto1 (upto1 (upto1 (upto1 (upto1 (upto1 (upto1 (upto1 (upto1 (upto1 (upto1 (upto1 (upto1 (upto1 (upto1 (upto1 (upto1 (upto1 upto0 (ini_BadFormat F_BadFormat___init__ O_BadFormat n_BadFormat)) (ini_BadSheet F_BadSheet___init__ O_BadSheet n_BadSheet)) (ini_BadText F_BadText___init__ O_BadText n_BadText)) (ini_BadLetters F_BadLetters___init__ O_BadLetters n_BadLetters)) (ini_NotIn F_NotIn___init__ O_NotIn n_NotIn)) (ini_TooLong F_TooLong___init__ O_TooLong n_TooLong)) (ini_UnlikeRows F_UnlikeRows___init__ O_UnlikeRows n_UnlikeRows)) (ini_NoWords F_NoWords___init__ O_NoWords n_NoWords)) (ini_Endless F_Endless___init__ O_Endless n_Endless)) (ini_Uneven F_Uneven___init__ O_Uneven n_Uneven)) (ini_BadCode F_BadCode___init__ O_BadCode n_BadCode)) (ini_TwoWays F_TwoWays___init__ O_TwoWays n_TwoWays)) (ini_NoMessage F_NoMessage___init__ O_NoMessage n_NoMessage)) (ini_TooMuch F_TooMuch___init__ O_TooMuch n_TooMuch)) (ini_BadLot F_BadLot___init__ O_BadLot n_BadLot)) (ini_TooFar F_TooFar___init__ O_TooFar n_TooFar)) (ini_TooMany F_TooMany___init__ O_TooMany n_TooMany)) (ini_Doubles F_Doubles___init__ O_Doubles n_Doubles)) (ini_NotThin F_NotThin___init__ O_NotThin n_NotThin)) (ini_BadName F_BadName___init__ O_BadName n_BadName)) (ini_NameTaken F_NameTaken___init__ O_NameTaken n_NameTaken)) (ini_NoBook F_NoBook___init__ O_NoBook n_NoBook)) (ini_NoName F_NoName___init__ O_NoName n_NoName)) (ini_NoWordLeft F_NoWordLeft___init__ O_NoWordLeft n_NoWordLeft)) (ini_IssuedBefore F_IssuedBefore___init__ O_IssuedBefore n_IssuedBefore)) (ini_NotDrawn F_NotDrawn___init__ O_NotDrawn n_NotDrawn)) (ini_NotInForce F_NotInForce___init__ O_NotInForce n_NotInForce)) (ini_BadSign F_BadSign___init__ O_BadSign n_BadSign)) (ini_StillInForce F_StillInForce___init__ O_StillInForce n_StillInForce)) (ini_BadDeed F_BadDeed___init__ O_BadDeed n_BadDeed)),
      b := (upto1 (upto1 (upto1 (upto1 (upto1 (upto1 (upto1 (upto1 (upto1 (upto1 (upto1 (upto1 (upto1 (upto1 (upto1 (upto1 (upto1 (upto1 (upto1 (upto1 (upto1 (upto1 (upto1 (upto1 (upto1 (upto1 (upto1 (upto1 (upto1 (upto1 upto0 (b_BadFormat___init__)) (b_BadSheet___init__)) (b_BadText___init__)) (b_BadLetters___init__)) (b_NotIn___init__)) (b_TooLong___init__)) (b_UnlikeRows___init__)) (b_NoWords___init__)) (b_Endless___init__)) (b_Uneven___init__)) (b_BadCode___init__)) (b_TwoWays___init__)) (b_NoMessage___init__)) (b_TooMuch___init__)) (b_BadLot___init__)) (b_TooFar___init__)) (b_TooMany___init__)) (b_Doubles___init__)) (b_NotThin___init__)) (b_BadName___init__)) (b_NameTaken___init__)) (b_NoBook___init__)) (b_NoName___init__)) (b_NoWordLeft___init__)) (b_IssuedBefore___init__)) (b_NotDrawn___init__)) (b_NotInForce___init__)) (b_BadSign___init__)) (b_StillInForce___init__)) (b_BadDeed___init__)),
      kb := (upto1 (upto1 (upto1 (upto1 (upto1 (upto1 (upto1 (upto1 (upto1 (upto1 (upto1 (upto1 (upto1 (upto1 (upto1 (upto1 (upto1 (upto1 (upto1 (upto1 (upto1 (upto1 (upto1 (upto1 (upto1 (upto1 (upto1 (upto1 (upto1 (upto1 upto0 (kb_BadFormat)) (kb_BadSheet)) (kb_BadText)) (kb_BadLetters)) (kb_NotIn)) (kb_TooLong)) (kb_UnlikeRows)) (kb_NoWords)) (kb_Endless)) (kb_Uneven)) (kb_BadCode)) (kb_TwoWays)) (kb_NoMessage)) (kb_TooMuch)) (kb_BadLot)) (kb_TooFar)) (kb_TooMany)) (kb_Doubles)) (kb_NotThin)) (kb_BadName)) (kb_NameTaken)) (kb_NoBook)) (kb_NoName)) (kb_NoWordLeft)) (kb_IssuedBefore)) (kb_NotDrawn)) (kb_NotInForce)) (kb_BadSign)) (kb_StillInForce)) (kb_BadDeed)),
      hG := ini_HasBeginnings F_HasBeginnings___init__ O_HasBeginnings n1_HasBeginnings n2_HasBeginnings,
      hb := b_HasBeginnings___init__,
      hkb := kb_HasBeginnings,
      h1 := n1_HasBeginnings,
      h2 := n2_HasBeginnings,
      q := fun i h => h.elim (fun e => e ▸ q_NothingToUndo) (fun e => e ▸ q_InvalidCommand),
      k := fun i h => h.elim (fun e => e ▸ k_NothingToUndo) (fun e => e ▸ k_InvalidCommand),
      kit := fun i j hi hj => apartB_ok ap hi hj,
      ks := (upto1 (upto1 (upto1 (upto1 (upto1 (upto1 (upto1 (upto1 (upto1 (upto1 (upto1 (upto1 (upto1 (upto1 (upto1 (upto1 (upto1 (upto1 (upto1 (upto1 (upto1 (upto1 (upto1 (upto1 (upto1 (upto1 (upto1 (upto1 (upto1 (upto1 (upto1 (upto1 (upto1 upto0 (kitsB_ok kt_BadFormat)) (kitsB_ok kt_BadSheet)) (kitsB_ok kt_BadText)) (kitsB_ok kt_BadLetters)) (kitsB_ok kt_NotIn)) (kitsB_ok kt_TooLong)) (kitsB_ok kt_UnlikeRows)) (kitsB_ok kt_NoWords)) (kitsB_ok kt_Endless)) (kitsB_ok kt_Uneven)) (kitsB_ok kt_BadCode)) (kitsB_ok kt_TwoWays)) (kitsB_ok kt_NoMessage)) (kitsB_ok kt_TooMuch)) (kitsB_ok kt_BadLot)) (kitsB_ok kt_TooFar)) (kitsB_ok kt_TooMany)) (kitsB_ok kt_Doubles)) (kitsB_ok kt_NotThin)) (kitsB_ok kt_BadName)) (kitsB_ok kt_NameTaken)) (kitsB_ok kt_NoBook)) (kitsB_ok kt_NoName)) (kitsB_ok kt_NoWordLeft)) (kitsB_ok kt_IssuedBefore)) (kitsB_ok kt_NotDrawn)) (kitsB_ok kt_NotInForce)) (kitsB_ok kt_BadSign)) (kitsB_ok kt_StillInForce)) (kitsB_ok kt_BadDeed)) (kitsB_ok kt_HasBeginnings)) (kitsB_ok kt_NothingToUndo)) (kitsB_ok kt_InvalidCommand)),
      e1 := e1,
      e2 := e2 }
  have G__law_errors_right := ok_errs (P := l.prog) (w := w) (base := base) hdg U F__law_errors_right F__law_errors_one m__law_errors_one b__law_errors_one F__law_errors_two m__law_errors_two b__law_errors_two F__law_errors_three m__law_errors_three b__law_errors_three F__law_kinds m__law_kinds b__law_kinds F__law_is_alone m__law_is_alone b__law_is_alone F__law_is_caught m__law_is_caught b__law_is_caught F__law_draw m__law_draw b__law_draw F__law_pick m__law_pick b__law_pick T
  exact ok_law hdg F_law F__law_deck m__law_deck b__law_deck F__law_draw m__law_draw b__law_draw F__law_pick m__law_pick b__law_pick F__law_word m__law_word b__law_word F__law_common m__law_common b__law_common F__law_two_right m__law_two_right b__law_two_right F_is_ahead m_is_ahead b_is_ahead F_common_beginning m_common_beginning b_common_beginning F_is_word m_is_word b_is_word F__law_errors_right m__law_errors_right b__law_errors_right kb_is_ahead_other_one kb_common_beginning_other_one kb_is_word_thing G__law_errors_right T
end SG

set_option maxHeartbeats 0
namespace SG
open PySem PySem.Spec PyProof.Rows L2
theorem head_ok {P : PySem.W.OpenLaw} {w : World} {h : Heap} {mg : Str → Option Value} {fa : Addr} (Y : hk.says w h) (G : h.Ns mainGlobals mg) (hfa : mg "law" = some (.ref fa)) :
    ∃ (K : PySem.W.Frag) (fd : FuncData) (sp : Sp), K.In h ∧ (∀ (st : Shared) (u : Value), BindsTo st fd ⟨[u], []⟩ [("_law_script", u)]) ∧
        (∀ (Hx : Hp) (a : Addr) (ns : List Int), ns.length ≤ 63 → Only Hx → SqL K Hx a (ns.map V.int) → sp [.ref a] Hx (fun v _ => v = .bl true) E0) ∧
        ∀ ba : Heap, K.In ba → ba.Ns mainGlobals mg → ba.NoDigits → GFn P.prog w K mg ba CX0 5 fa fd ["_law_script"] sp := by
  obtain ⟨K, KX, c⟩ := Y
  have z : exAll K = true := c.more
  unfold exAll at z
  obtain ⟨z0, z⟩ := He.ba z
  obtain ⟨z1, z⟩ := He.ba z
  obtain ⟨z2, z⟩ := He.ba z
  obtain ⟨z3, z⟩ := He.ba z
  obtain ⟨z4, z⟩ := He.ba z
  obtain ⟨z5, z⟩ := He.ba z
  obtain ⟨z6, z⟩ := He.ba z
  obtain ⟨z7, z⟩ := He.ba z
  obtain ⟨z8, z⟩ := He.ba z
  obtain ⟨z9, z⟩ := He.ba z
  have z10 := z
  obtain ⟨fd_BadFormat___init__, F_BadFormat___init__⟩ := c.def_ 0 rfl
  obtain ⟨fd_BadSheet___init__, F_BadSheet___init__⟩ := c.def_ 1 rfl
  obtain ⟨fd_BadText___init__, F_BadText___init__⟩ := c.def_ 2 rfl
  obtain ⟨fd_BadLetters___init__, F_BadLetters___init__⟩ := c.def_ 3 rfl
  obtain ⟨fd_NotIn___init__, F_NotIn___init__⟩ := c.def_ 4 rfl
  obtain ⟨fd_TooLong___init__, F_TooLong___init__⟩ := c.def_ 5 rfl
  obtain ⟨fd_UnlikeRows___init__, F_UnlikeRows___init__⟩ := c.def_ 6 rfl
  obtain ⟨fd_NoWords___init__, F_NoWords___init__⟩ := c.def_ 7 rfl
  obtain ⟨fd_Endless___init__, F_Endless___init__⟩ := c.def_ 8 rfl
  obtain ⟨fd_Uneven___init__, F_Uneven___init__⟩ := c.def_ 9 rfl
  obtain ⟨fd_BadCode___init__, F_BadCode___init__⟩ := c.def_ 10 rfl
  obtain ⟨fd_TwoWays___init__, F_TwoWays___init__⟩ := c.def_ 11 rfl
  obtain ⟨fd_NoMessage___init__, F_NoMessage___init__⟩ := c.def_ 12 rfl
  obtain ⟨fd_HasBeginnings___init__, F_HasBeginnings___init__⟩ := c.def_ 13 rfl
  obtain ⟨fd_TooMuch___init__, F_TooMuch___init__⟩ := c.def_ 14 rfl
  obtain ⟨fd_BadLot___init__, F_BadLot___init__⟩ := c.def_ 15 rfl
  obtain ⟨fd_TooFar___init__, F_TooFar___init__⟩ := c.def_ 16 rfl
  obtain ⟨fd_TooMany___init__, F_TooMany___init__⟩ := c.def_ 17 rfl
  obtain ⟨fd_Doubles___init__, F_Doubles___init__⟩ := c.def_ 18 rfl
  obtain ⟨fd_NotThin___init__, F_NotThin___init__⟩ := c.def_ 19 rfl
  obtain ⟨fd_BadName___init__, F_BadName___init__⟩ := c.def_ 20 rfl
  obtain ⟨fd_NameTaken___init__, F_NameTaken___init__⟩ := c.def_ 21 rfl
  obtain ⟨fd_NoBook___init__, F_NoBook___init__⟩ := c.def_ 22 rfl
  obtain ⟨fd_NoName___init__, F_NoName___init__⟩ := c.def_ 23 rfl
  obtain ⟨fd_NoWordLeft___init__, F_NoWordLeft___init__⟩ := c.def_ 24 rfl
  obtain ⟨fd_IssuedBefore___init__, F_IssuedBefore___init__⟩ := c.def_ 25 rfl
  obtain ⟨fd_NotDrawn___init__, F_NotDrawn___init__⟩ := c.def_ 26 rfl
  obtain ⟨fd_NotInForce___init__, F_NotInForce___init__⟩ := c.def_ 27 rfl
  obtain ⟨fd_BadSign___init__, F_BadSign___init__⟩ := c.def_ 28 rfl
  obtain ⟨fd_StillInForce___init__, F_StillInForce___init__⟩ := c.def_ 29 rfl
  obtain ⟨fd_BadDeed___init__, F_BadDeed___init__⟩ := c.def_ 30 rfl
  obtain ⟨fd_is_word, F_is_word⟩ := c.def_ 31 rfl
  obtain ⟨fd_is_ahead, F_is_ahead⟩ := c.def_ 32 rfl
  obtain ⟨fd_common_beginning, F_common_beginning⟩ := c.def_ 33 rfl
  obtain ⟨fd__law_deck, F__law_deck⟩ := c.def_ 34 rfl
  obtain ⟨fd__law_draw, F__law_draw⟩ := c.def_ 35 rfl
  obtain ⟨fd__law_pick, F__law_pick⟩ := c.def_ 36 rfl
  obtain ⟨fd__law_word, F__law_word⟩ := c.def_ 37 rfl
  obtain ⟨fd__law_common, F__law_common⟩ := c.def_ 38 rfl
  obtain ⟨fd__law_two_right, F__law_two_right⟩ := c.def_ 39 rfl
  obtain ⟨fd__law_errors_one, F__law_errors_one⟩ := c.def_ 40 rfl
  obtain ⟨fd__law_errors_two, F__law_errors_two⟩ := c.def_ 41 rfl
  obtain ⟨fd__law_errors_three, F__law_errors_three⟩ := c.def_ 42 rfl
  obtain ⟨fd__law_kinds, F__law_kinds⟩ := c.def_ 43 rfl
  obtain ⟨fd__law_is_alone, F__law_is_alone⟩ := c.def_ 44 rfl
  obtain ⟨fd__law_errors_right, F__law_errors_right⟩ := c.def_ 45 rfl
  obtain ⟨fd__law_is_caught, F__law_is_caught⟩ := c.def_ 46 rfl
  obtain ⟨fd_law, F_law⟩ := c.def_ 47 rfl
  have e_g_BadFormat : PySem.W.nsIn K mainGlobals "BadFormat" = some (some (.ref (He.ga K "BadFormat"))) := (of_decide_eq_true (fb z0 0 rfl))
  have e_g_BadSheet : PySem.W.nsIn K mainGlobals "BadSheet" = some (some (.ref (He.ga K "BadSheet"))) := (of_decide_eq_true (fb z0 1 rfl))
  have e_g_BadText : PySem.W.nsIn K mainGlobals "BadText" = some (some (.ref (He.ga K "BadText"))) := (of_decide_eq_true (fb z0 2 rfl))
  have e_g_BadLetters : PySem.W.nsIn K mainGlobals "BadLetters" = some (some (.ref (He.ga K "BadLetters"))) := (of_decide_eq_true (fb z0 3 rfl))
  have e_g_NotIn : PySem.W.nsIn K mainGlobals "NotIn" = some (some (.ref (He.ga K "NotIn"))) := (of_decide_eq_true (fb z0 4 rfl))
  have e_g_TooLong : PySem.W.nsIn K mainGlobals "TooLong" = some (some (.ref (He.ga K "TooLong"))) := (of_decide_eq_true (fb z0 5 rfl))
  have e_g_UnlikeRows : PySem.W.nsIn K mainGlobals "UnlikeRows" = some (some (.ref (He.ga K "UnlikeRows"))) := (of_decide_eq_true (fb z0 6 rfl))
  have e_g_NoWords : PySem.W.nsIn K mainGlobals "NoWords" = some (some (.ref (He.ga K "NoWords"))) := (of_decide_eq_true (fb z0 7 rfl))
  have e_g_Endless : PySem.W.nsIn K mainGlobals "Endless" = some (some (.ref (He.ga K "Endless"))) := (of_decide_eq_true (fb z0 8 rfl))
  have e_g_Uneven : PySem.W.nsIn K mainGlobals "Uneven" = some (some (.ref (He.ga K "Uneven"))) := (of_decide_eq_true (fb z0 9 rfl))
  have e_g_BadCode : PySem.W.nsIn K mainGlobals "BadCode" = some (some (.ref (He.ga K "BadCode"))) := (of_decide_eq_true (fb z0 10 rfl))
  have e_g_TwoWays : PySem.W.nsIn K mainGlobals "TwoWays" = some (some (.ref (He.ga K "TwoWays"))) := (of_decide_eq_true (fb z0 11 rfl))
  have e_g_NoMessage : PySem.W.nsIn K mainGlobals "NoMessage" = some (some (.ref (He.ga K "NoMessage"))) := (of_decide_eq_true (fb z0 12 rfl))
  have e_g_TooMuch : PySem.W.nsIn K mainGlobals "TooMuch" = some (some (.ref (He.ga K "TooMuch"))) := (of_decide_eq_true (fb z0 13 rfl))
  have e_g_BadLot : PySem.W.nsIn K mainGlobals "BadLot" = some (some (.ref (He.ga K "BadLot"))) := (of_decide_eq_true (fb z0 14 rfl))
  have e_g_TooFar : PySem.W.nsIn K mainGlobals "TooFar" = some (some (.ref (He.ga K "TooFar"))) := (of_decide_eq_true (fb z0 15 rfl))
  have e_g_TooMany : PySem.W.nsIn K mainGlobals "TooMany" = some (some (.ref (He.ga K "TooMany"))) := (of_decide_eq_true (fb z0 16 rfl))
  have e_g_Doubles : PySem.W.nsIn K mainGlobals "Doubles" = some (some (.ref (He.ga K "Doubles"))) := (of_decide_eq_true (fb z0 17 rfl))
  have e_g_NotThin : PySem.W.nsIn K mainGlobals "NotThin" = some (some (.ref (He.ga K "NotThin"))) := (of_decide_eq_true (fb z0 18 rfl))
  have e_g_BadName : PySem.W.nsIn K mainGlobals "BadName" = some (some (.ref (He.ga K "BadName"))) := (of_decide_eq_true (fb z0 19 rfl))
  have e_g_NameTaken : PySem.W.nsIn K mainGlobals "NameTaken" = some (some (.ref (He.ga K "NameTaken"))) := (of_decide_eq_true (fb z0 20 rfl))
  have e_g_NoBook : PySem.W.nsIn K mainGlobals "NoBook" = some (some (.ref (He.ga K "NoBook"))) := (of_decide_eq_true (fb z0 21 rfl))
  have e_g_NoName : PySem.W.nsIn K mainGlobals "NoName" = some (some (.ref (He.ga K "NoName"))) := (of_decide_eq_true (fb z0 22 rfl))
  have e_g_NoWordLeft : PySem.W.nsIn K mainGlobals "NoWordLeft" = some (some (.ref (He.ga K "NoWordLeft"))) := (of_decide_eq_true (fb z0 23 rfl))
  have e_g_IssuedBefore : PySem.W.nsIn K mainGlobals "IssuedBefore" = some (some (.ref (He.ga K "IssuedBefore"))) := (of_decide_eq_true (fb z0 24 rfl))
  have e_g_NotDrawn : PySem.W.nsIn K mainGlobals "NotDrawn" = some (some (.ref (He.ga K "NotDrawn"))) := (of_decide_eq_true (fb z1 0 rfl))
  have e_g_NotInForce : PySem.W.nsIn K mainGlobals "NotInForce" = some (some (.ref (He.ga K "NotInForce"))) := (of_decide_eq_true (fb z1 1 rfl))
  have e_g_BadSign : PySem.W.nsIn K mainGlobals "BadSign" = some (some (.ref (He.ga K "BadSign"))) := (of_decide_eq_true (fb z1 2 rfl))
  have e_g_StillInForce : PySem.W.nsIn K mainGlobals "StillInForce" = some (some (.ref (He.ga K "StillInForce"))) := (of_decide_eq_true (fb z1 3 rfl))
  have e_g_BadDeed : PySem.W.nsIn K mainGlobals "BadDeed" = some (some (.ref (He.ga K "BadDeed"))) := (of_decide_eq_true (fb z1 4 rfl))
  have e_g_HasBeginnings : PySem.W.nsIn K mainGlobals "HasBeginnings" = some (some (.ref (He.ga K "HasBeginnings"))) := (of_decide_eq_true (fb z1 5 rfl))
  have e_g_NothingToUndo : PySem.W.nsIn K mainGlobals "NothingToUndo" = some (some (.ref (He.ga K "NothingToUndo"))) := (of_decide_eq_true (fb z1 6 rfl))
  have e_g_InvalidCommand : PySem.W.nsIn K mainGlobals "InvalidCommand" = some (some (.ref (He.ga K "InvalidCommand"))) := (of_decide_eq_true (fb z1 7 rfl))
  have e_g_SerialError : PySem.W.nsIn K mainGlobals "SerialError" = some (some (.ref (He.ga K "SerialError"))) := (of_decide_eq_true (fb z1 8 rfl))
  have e_x_BadFormat : xcB K (He.ga K "BadFormat") = true := (fb z1 9 rfl)
  have e_x_BadSheet : xcB K (He.ga K "BadSheet") = true := (fb z1 10 rfl)
  have e_x_BadText : xcB K (He.ga K "BadText") = true := (fb z1 11 rfl)
  have e_x_BadLetters : xcB K (He.ga K "BadLetters") = true := (fb z1 12 rfl)
  have e_x_NotIn : xcB K (He.ga K "NotIn") = true := (fb z1 13 rfl)
  have e_x_TooLong : xcB K (He.ga K "TooLong") = true := (fb z1 14 rfl)
  have e_x_UnlikeRows : xcB K (He.ga K "UnlikeRows") = true := (fb z1 15 rfl)
  have e_x_NoWords : xcB K (He.ga K "NoWords") = true := (fb z1 16 rfl)
  have e_x_Endless : xcB K (He.ga K "Endless") = true := (fb z1 17 rfl)
  have e_x_Uneven : xcB K (He.ga K "Uneven") = true := (fb z1 18 rfl)
  have e_x_BadCode : xcB K (He.ga K "BadCode") = true := (fb z1 19 rfl)
  have e_x_TwoWays : xcB K (He.ga K "TwoWays") = true := (fb z1 20 rfl)
  have e_x_NoMessage : xcB K (He.ga K "NoMessage") = true := (fb z1 21 rfl)
  have e_x_TooMuch : xcB K (He.ga K "TooMuch") = true := (fb z1 22 rfl)
  have e_x_BadLot : xcB K (He.ga K "BadLot") = true := (fb z1 23 rfl)
  have e_x_TooFar : xcB K (He.ga K "TooFar") = true := (fb z1 24 rfl)
  have e_x_TooMany : xcB K (He.ga K "TooMany") = true := (fb z2 0 rfl)
  have e_x_Doubles : xcB K (He.ga K "Doubles") = true := (fb z2 1 rfl)
  have e_x_NotThin : xcB K (He.ga K "NotThin") = true := (fb z2 2 rfl)
  have e_x_BadName : xcB K (He.ga K "BadName") = true := (fb z2 3 rfl)
  have e_x_NameTaken : xcB K (He.ga K "NameTaken") = true := (fb z2 4 rfl)
  have e_x_NoBook : xcB K (He.ga K "NoBook") = true := (fb z2 5 rfl)
  have e_x_NoName : xcB K (He.ga K "NoName") = true := (fb z2 6 rfl)
  have e_x_NoWordLeft : xcB K (He.ga K "NoWordLeft") = true := (fb z2 7 rfl)
  have e_x_IssuedBefore : xcB K (He.ga K "IssuedBefore") = true := (fb z2 8 rfl)
  have e_x_NotDrawn : xcB K (He.ga K "NotDrawn") = true := (fb z2 9 rfl)
  have e_x_NotInForce : xcB K (He.ga K "NotInForce") = true := (fb z2 10 rfl)
  have e_x_BadSign : xcB K (He.ga K "BadSign") = true := (fb z2 11 rfl)
  have e_x_StillInForce : xcB K (He.ga K "StillInForce") = true := (fb z2 12 rfl)
  have e_x_BadDeed : xcB K (He.ga K "BadDeed") = true := (fb z2 13 rfl)
  have e_x_HasBeginnings : xcB K (He.ga K "HasBeginnings") = true := (fb z2 14 rfl)
  have e_x_NothingToUndo : xcB K (He.ga K "NothingToUndo") = true := (fb z2 15 rfl)
  have e_x_InvalidCommand : xcB K (He.ga K "InvalidCommand") = true := (fb z2 16 rfl)
  have e_o_BadFormat : ownB K (He.ga K "SerialError") (He.ga K "BadFormat") = true := (fb z2 17 rfl)
  have e_o_BadSheet : ownB K (He.ga K "SerialError") (He.ga K "BadSheet") = true := (fb z2 18 rfl)
  have e_o_BadText : ownB K (He.ga K "SerialError") (He.ga K "BadText") = true := (fb z2 19 rfl)
  have e_o_BadLetters : ownB K (He.ga K "SerialError") (He.ga K "BadLetters") = true := (fb z2 20 rfl)
  have e_o_NotIn : ownB K (He.ga K "SerialError") (He.ga K "NotIn") = true := (fb z2 21 rfl)
  have e_o_TooLong : ownB K (He.ga K "SerialError") (He.ga K "TooLong") = true := (fb z2 22 rfl)
  have e_o_UnlikeRows : ownB K (He.ga K "SerialError") (He.ga K "UnlikeRows") = true := (fb z2 23 rfl)
  have e_o_NoWords : ownB K (He.ga K "SerialError") (He.ga K "NoWords") = true := (fb z2 24 rfl)
  have e_o_Endless : ownB K (He.ga K "SerialError") (He.ga K "Endless") = true := (fb z3 0 rfl)
  have e_o_Uneven : ownB K (He.ga K "SerialError") (He.ga K "Uneven") = true := (fb z3 1 rfl)
  have e_o_BadCode : ownB K (He.ga K "SerialError") (He.ga K "BadCode") = true := (fb z3 2 rfl)
  have e_o_TwoWays : ownB K (He.ga K "SerialError") (He.ga K "TwoWays") = true := (fb z3 3 rfl)
  have e_o_NoMessage : ownB K (He.ga K "SerialError") (He.ga K "NoMessage") = true := (fb z3 4 rfl)
  have e_o_TooMuch : ownB K (He.ga K "SerialError") (He.ga K "TooMuch") = true := (fb z3 5 rfl)
  have e_o_BadLot : ownB K (He.ga K "SerialError") (He.ga K "BadLot") = true := (fb z3 6 rfl)
  have e_o_TooFar : ownB K (He.ga K "SerialError") (He.ga K "TooFar") = true := (fb z3 7 rfl)
  have e_o_TooMany : ownB K (He.ga K "SerialError") (He.ga K "TooMany") = true := (fb z3 8 rfl)
  have e_o_Doubles : ownB K (He.ga K "SerialError") (He.ga K "Doubles") = true := (fb z3 9 rfl)
  have e_o_NotThin : ownB K (He.ga K "SerialError") (He.ga K "NotThin") = true := (fb z3 10 rfl)
  have e_o_BadName : ownB K (He.ga K "SerialError") (He.ga K "BadName") = true := (fb z3 11 rfl)
  have e_o_NameTaken : ownB K (He.ga K "SerialError") (He.ga K "NameTaken") = true := (fb z3 12 rfl)
  have e_o_NoBook : ownB K (He.ga K "SerialError") (He.ga K "NoBook") = true := (fb z3 13 rfl)
  have e_o_NoName : ownB K (He.ga K "SerialError") (He.ga K "NoName") = true := (fb z3 14 rfl)
  have e_o_NoWordLeft : ownB K (He.ga K "SerialError") (He.ga K "NoWordLeft") = true := (fb z3 15 rfl)
  have e_o_IssuedBefore : ownB K (He.ga K "SerialError") (He.ga K "IssuedBefore") = true := (fb z3 16 rfl)
  have e_o_NotDrawn : ownB K (He.ga K "SerialError") (He.ga K "NotDrawn") = true := (fb z3 17 rfl)
  have e_o_NotInForce : ownB K (He.ga K "SerialError") (He.ga K "NotInForce") = true := (fb z3 18 rfl)
  have e_o_BadSign : ownB K (He.ga K "SerialError") (He.ga K "BadSign") = true := (fb z3 19 rfl)
  have e_o_StillInForce : ownB K (He.ga K "SerialError") (He.ga K "StillInForce") = true := (fb z3 20 rfl)
  have e_o_BadDeed : ownB K (He.ga K "SerialError") (He.ga K "BadDeed") = true := (fb z3 21 rfl)
  have e_o_HasBeginnings : ownB K (He.ga K "SerialError") (He.ga K "HasBeginnings") = true := (fb z3 22 rfl)
  have e_n_BadFormat : PySem.W.findIn K (.ref (He.ga K "BadFormat")) "part" = some none := (of_decide_eq_true (fb z3 23 rfl))
  have e_n_BadSheet : PySem.W.findIn K (.ref (He.ga K "BadSheet")) "part" = some none := (of_decide_eq_true (fb z3 24 rfl))
  have e_n_BadText : PySem.W.findIn K (.ref (He.ga K "BadText")) "place" = some none := (of_decide_eq_true (fb z4 0 rfl))
  have e_n_BadLetters : PySem.W.findIn K (.ref (He.ga K "BadLetters")) "pairs" = some none := (of_decide_eq_true (fb z4 1 rfl))
  have e_n_NotIn : PySem.W.findIn K (.ref (He.ga K "NotIn")) "word" = some none := (of_decide_eq_true (fb z4 2 rfl))
  have e_n_TooLong : PySem.W.findIn K (.ref (He.ga K "TooLong")) "most" = some none := (of_decide_eq_true (fb z4 3 rfl))
  have e_n_UnlikeRows : PySem.W.findIn K (.ref (He.ga K "UnlikeRows")) "length" = some none := (of_decide_eq_true (fb z4 4 rfl))
  have e_n_NoWords : PySem.W.findIn K (.ref (He.ga K "NoWords")) "length" = some none := (of_decide_eq_true (fb z4 5 rfl))
  have e_n_Endless : PySem.W.findIn K (.ref (He.ga K "Endless")) "paper" = some none := (of_decide_eq_true (fb z4 6 rfl))
  have e_n_Uneven : PySem.W.findIn K (.ref (He.ga K "Uneven")) "shares" = some none := (of_decide_eq_true (fb z4 7 rfl))
  have e_n_BadCode : PySem.W.findIn K (.ref (He.ga K "BadCode")) "part" = some none := (of_decide_eq_true (fb z4 8 rfl))
  have e_n_TwoWays : PySem.W.findIn K (.ref (He.ga K "TwoWays")) "paper" = some none := (of_decide_eq_true (fb z4 9 rfl))
  have e_n_NoMessage : PySem.W.findIn K (.ref (He.ga K "NoMessage")) "place" = some none := (of_decide_eq_true (fb z4 10 rfl))
  have e_n_TooMuch : PySem.W.findIn K (.ref (He.ga K "TooMuch")) "share" = some none := (of_decide_eq_true (fb z4 11 rfl))
  have e_n_BadLot : PySem.W.findIn K (.ref (He.ga K "BadLot")) "part" = some none := (of_decide_eq_true (fb z4 12 rfl))
  have e_n_TooFar : PySem.W.findIn K (.ref (He.ga K "TooFar")) "most" = some none := (of_decide_eq_true (fb z4 13 rfl))
  have e_n_TooMany : PySem.W.findIn K (.ref (He.ga K "TooMany")) "most" = some none := (of_decide_eq_true (fb z4 14 rfl))
  have e_n_Doubles : PySem.W.findIn K (.ref (He.ga K "Doubles")) "paper" = some none := (of_decide_eq_true (fb z4 15 rfl))
  have e_n_NotThin : PySem.W.findIn K (.ref (He.ga K "NotThin")) "paper" = some none := (of_decide_eq_true (fb z4 16 rfl))
  have e_n_BadName : PySem.W.findIn K (.ref (He.ga K "BadName")) "name" = some none := (of_decide_eq_true (fb z4 17 rfl))
  have e_n_NameTaken : PySem.W.findIn K (.ref (He.ga K "NameTaken")) "name" = some none := (of_decide_eq_true (fb z4 18 rfl))
  have e_n_NoBook : PySem.W.findIn K (.ref (He.ga K "NoBook")) "name" = some none := (of_decide_eq_true (fb z4 19 rfl))
  have e_n_NoName : PySem.W.findIn K (.ref (He.ga K "NoName")) "name" = some none := (of_decide_eq_true (fb z4 20 rfl))
  have e_n_NoWordLeft : PySem.W.findIn K (.ref (He.ga K "NoWordLeft")) "name" = some none := (of_decide_eq_true (fb z4 21 rfl))
  have e_n_IssuedBefore : PySem.W.findIn K (.ref (He.ga K "IssuedBefore")) "word" = some none := (of_decide_eq_true (fb z4 22 rfl))
  have e_n_NotDrawn : PySem.W.findIn K (.ref (He.ga K "NotDrawn")) "tosses" = some none := (of_decide_eq_true (fb z4 23 rfl))
  have e_n_NotInForce : PySem.W.findIn K (.ref (He.ga K "NotInForce")) "word" = some none := (of_decide_eq_true (fb z4 24 rfl))
  have e_n_BadSign : PySem.W.findIn K (.ref (He.ga K "BadSign")) "sign" = some none := (of_decide_eq_true (fb z5 0 rfl))
  have e_n_StillInForce : PySem.W.findIn K (.ref (He.ga K "StillInForce")) "word" = some none := (of_decide_eq_true (fb z5 1 rfl))
  have e_n_BadDeed : PySem.W.findIn K (.ref (He.ga K "BadDeed")) "number" = some none := (of_decide_eq_true (fb z5 2 rfl))
  have e_n1_HasBeginnings : PySem.W.findIn K (.ref (He.ga K "HasBeginnings")) "one" = some none := (of_decide_eq_true (fb z5 3 rfl))
  have e_n2_HasBeginnings : PySem.W.findIn K (.ref (He.ga K "HasBeginnings")) "other" = some none := (of_decide_eq_true (fb z5 4 rfl))
  have e_q_NothingToUndo : PySem.W.excIn K (He.ga K "NothingToUndo") [.type "Exception", .type "BaseException", .type "object"] "Exception.__new__" = true := (fb z5 5 rfl)
  have e_k_NothingToUndo : PySem.W.keepIn K (.ref (He.ga K "NothingToUndo")) = true := (fb z5 6 rfl)
  have e_q_InvalidCommand : PySem.W.excIn K (He.ga K "InvalidCommand") [.type "Exception", .type "BaseException", .type "object"] "Exception.__new__" = true := (fb z5 7 rfl)
  have e_k_InvalidCommand : PySem.W.keepIn K (.ref (He.ga K "InvalidCommand")) = true := (fb z5 8 rfl)
  have e_kt_BadFormat : kitsB K (He.ga K "SerialError") (He.ga K "BadFormat") = true := (fb z5 9 rfl)
  have e_kt_BadSheet : kitsB K (He.ga K "SerialError") (He.ga K "BadSheet") = true := (fb z5 10 rfl)
  have e_kt_BadText : kitsB K (He.ga K "SerialError") (He.ga K "BadText") = true := (fb z5 11 rfl)
  have e_kt_BadLetters : kitsB K (He.ga K "SerialError") (He.ga K "BadLetters") = true := (fb z5 12 rfl)
  have e_kt_NotIn : kitsB K (He.ga K "SerialError") (He.ga K "NotIn") = true := (fb z5 13 rfl)
  have e_kt_TooLong : kitsB K (He.ga K "SerialError") (He.ga K "TooLong") = true := (fb z5 14 rfl)
  have e_kt_UnlikeRows : kitsB K (He.ga K "SerialError") (He.ga K "UnlikeRows") = true := (fb z5 15 rfl)
  have e_kt_NoWords : kitsB K (He.ga K "SerialError") (He.ga K "NoWords") = true := (fb z5 16 rfl)
  have e_kt_Endless : kitsB K (He.ga K "SerialError") (He.ga K "Endless") = true := (fb z5 17 rfl)
  have e_kt_Uneven : kitsB K (He.ga K "SerialError") (He.ga K "Uneven") = true := (fb z5 18 rfl)
  have e_kt_BadCode : kitsB K (He.ga K "SerialError") (He.ga K "BadCode") = true := (fb z5 19 rfl)
  have e_kt_TwoWays : kitsB K (He.ga K "SerialError") (He.ga K "TwoWays") = true := (fb z5 20 rfl)
  have e_kt_NoMessage : kitsB K (He.ga K "SerialError") (He.ga K "NoMessage") = true := (fb z5 21 rfl)
  have e_kt_TooMuch : kitsB K (He.ga K "SerialError") (He.ga K "TooMuch") = true := (fb z5 22 rfl)
  have e_kt_BadLot : kitsB K (He.ga K "SerialError") (He.ga K "BadLot") = true := (fb z5 23 rfl)
  have e_kt_TooFar : kitsB K (He.ga K "SerialError") (He.ga K "TooFar") = true := (fb z5 24 rfl)
  have e_kt_TooMany : kitsB K (He.ga K "SerialError") (He.ga K "TooMany") = true := (fb z6 0 rfl)
  have e_kt_Doubles : kitsB K (He.ga K "SerialError") (He.ga K "Doubles") = true := (fb z6 1 rfl)
  have e_kt_NotThin : kitsB K (He.ga K "SerialError") (He.ga K "NotThin") = true := (fb z6 2 rfl)
  have e_kt_BadName : kitsB K (He.ga K "SerialError") (He.ga K "BadName") = true := (fb z6 3 rfl)
  have e_kt_NameTaken : kitsB K (He.ga K "SerialError") (He.ga K "NameTaken") = true := (fb z6 4 rfl)
  have e_kt_NoBook : kitsB K (He.ga K "SerialError") (He.ga K "NoBook") = true := (fb z6 5 rfl)
  have e_kt_NoName : kitsB K (He.ga K "SerialError") (He.ga K "NoName") = true := (fb z6 6 rfl)
  have e_kt_NoWordLeft : kitsB K (He.ga K "SerialError") (He.ga K "NoWordLeft") = true := (fb z6 7 rfl)
  have e_kt_IssuedBefore : kitsB K (He.ga K "SerialError") (He.ga K "IssuedBefore") = true := (fb z6 8 rfl)
  have e_kt_NotDrawn : kitsB K (He.ga K "SerialError") (He.ga K "NotDrawn") = true := (fb z6 9 rfl)
  have e_kt_NotInForce : kitsB K (He.ga K "SerialError") (He.ga K "NotInForce") = true := (fb z6 10 rfl)
  have e_kt_BadSign : kitsB K (He.ga K "SerialError") (He.ga K "BadSign") = true := (fb z6 11 rfl)
  have e_kt_StillInForce : kitsB K (He.ga K "SerialError") (He.ga K "StillInForce") = true := (fb z6 12 rfl)
  have e_kt_BadDeed : kitsB K (He.ga K "SerialError") (He.ga K "BadDeed") = true := (fb z6 13 rfl)
  have e_kt_HasBeginnings : kitsB K (He.ga K "SerialError") (He.ga K "HasBeginnings") = true := (fb z6 14 rfl)
  have e_kt_NothingToUndo : kitsB K (He.ga K "SerialError") (He.ga K "NothingToUndo") = true := (fb z6 15 rfl)
  have e_kt_InvalidCommand : kitsB K (He.ga K "SerialError") (He.ga K "InvalidCommand") = true := (fb z6 16 rfl)
  have e_ap : apartB K [(He.ga K "BadFormat"), (He.ga K "BadSheet"), (He.ga K "BadText"), (He.ga K "BadLetters"), (He.ga K "NotIn"), (He.ga K "TooLong"), (He.ga K "UnlikeRows"), (He.ga K "NoWords"), (He.ga K "Endless"), (He.ga K "Uneven"), (He.ga K "BadCode"), (He.ga K "TwoWays"), (He.ga K "NoMessage"), (He.ga K "TooMuch"), (He.ga K "BadLot"), (He.ga K "TooFar"), (He.ga K "TooMany"), (He.ga K "Doubles"), (He.ga K "NotThin"), (He.ga K "BadName"), (He.ga K "NameTaken"), (He.ga K "NoBook"), (He.ga K "NoName"), (He.ga K "NoWordLeft"), (He.ga K "IssuedBefore"), (He.ga K "NotDrawn"), (He.ga K "NotInForce"), (He.ga K "BadSign"), (He.ga K "StillInForce"), (He.ga K "BadDeed"), (He.ga K "HasBeginnings"), (He.ga K "NothingToUndo"), (He.ga K "InvalidCommand")] = true := (fb z6 17 rfl)
  have e_e1 : PySem.W.exmOne K (.ref (He.ga K "NotInForce")) (.ref (He.ga K "StillInForce")) = some false := (of_decide_eq_true (fb z6 18 rfl))
  have e_e2 : PySem.W.exmOne K (.ref (He.ga K "NotInForce")) (.ref (He.ga K "SerialError")) = some true := (of_decide_eq_true (fb z6 19 rfl))
  have e_a_BadFormat___init__ : PySem.W.findIn K (.ref (He.ga K "BadFormat")) "__init__" = some (some (.ref (He.ma K (He.ga K "BadFormat") "__init__"))) := (of_decide_eq_true (fb z6 20 rfl))
  have e_i_BadFormat___init__ : PySem.W.isFn K (.ref (He.ma K (He.ga K "BadFormat") "__init__")) = true := (fb z6 21 rfl)
  have e_a_BadSheet___init__ : PySem.W.findIn K (.ref (He.ga K "BadSheet")) "__init__" = some (some (.ref (He.ma K (He.ga K "BadSheet") "__init__"))) := (of_decide_eq_true (fb z6 22 rfl))
  have e_i_BadSheet___init__ : PySem.W.isFn K (.ref (He.ma K (He.ga K "BadSheet") "__init__")) = true := (fb z6 23 rfl)
  have e_a_BadText___init__ : PySem.W.findIn K (.ref (He.ga K "BadText")) "__init__" = some (some (.ref (He.ma K (He.ga K "BadText") "__init__"))) := (of_decide_eq_true (fb z6 24 rfl))
  have e_i_BadText___init__ : PySem.W.isFn K (.ref (He.ma K (He.ga K "BadText") "__init__")) = true := (fb z7 0 rfl)
  have e_a_BadLetters___init__ : PySem.W.findIn K (.ref (He.ga K "BadLetters")) "__init__" = some (some (.ref (He.ma K (He.ga K "BadLetters") "__init__"))) := (of_decide_eq_true (fb z7 1 rfl))
  have e_i_BadLetters___init__ : PySem.W.isFn K (.ref (He.ma K (He.ga K "BadLetters") "__init__")) = true := (fb z7 2 rfl)
  have e_a_NotIn___init__ : PySem.W.findIn K (.ref (He.ga K "NotIn")) "__init__" = some (some (.ref (He.ma K (He.ga K "NotIn") "__init__"))) := (of_decide_eq_true (fb z7 3 rfl))
  have e_i_NotIn___init__ : PySem.W.isFn K (.ref (He.ma K (He.ga K "NotIn") "__init__")) = true := (fb z7 4 rfl)
  have e_a_TooLong___init__ : PySem.W.findIn K (.ref (He.ga K "TooLong")) "__init__" = some (some (.ref (He.ma K (He.ga K "TooLong") "__init__"))) := (of_decide_eq_true (fb z7 5 rfl))
  have e_i_TooLong___init__ : PySem.W.isFn K (.ref (He.ma K (He.ga K "TooLong") "__init__")) = true := (fb z7 6 rfl)
  have e_a_UnlikeRows___init__ : PySem.W.findIn K (.ref (He.ga K "UnlikeRows")) "__init__" = some (some (.ref (He.ma K (He.ga K "UnlikeRows") "__init__"))) := (of_decide_eq_true (fb z7 7 rfl))
  have e_i_UnlikeRows___init__ : PySem.W.isFn K (.ref (He.ma K (He.ga K "UnlikeRows") "__init__")) = true := (fb z7 8 rfl)
  have e_a_NoWords___init__ : PySem.W.findIn K (.ref (He.ga K "NoWords")) "__init__" = some (some (.ref (He.ma K (He.ga K "NoWords") "__init__"))) := (of_decide_eq_true (fb z7 9 rfl))
  have e_i_NoWords___init__ : PySem.W.isFn K (.ref (He.ma K (He.ga K "NoWords") "__init__")) = true := (fb z7 10 rfl)
  have e_a_Endless___init__ : PySem.W.findIn K (.ref (He.ga K "Endless")) "__init__" = some (some (.ref (He.ma K (He.ga K "Endless") "__init__"))) := (of_decide_eq_true (fb z7 11 rfl))
  have e_i_Endless___init__ : PySem.W.isFn K (.ref (He.ma K (He.ga K "Endless") "__init__")) = true := (fb z7 12 rfl)
  have e_a_Uneven___init__ : PySem.W.findIn K (.ref (He.ga K "Uneven")) "__init__" = some (some (.ref (He.ma K (He.ga K "Uneven") "__init__"))) := (of_decide_eq_true (fb z7 13 rfl))
  have e_i_Uneven___init__ : PySem.W.isFn K (.ref (He.ma K (He.ga K "Uneven") "__init__")) = true := (fb z7 14 rfl)
  have e_a_BadCode___init__ : PySem.W.findIn K (.ref (He.ga K "BadCode")) "__init__" = some (some (.ref (He.ma K (He.ga K "BadCode") "__init__"))) := (of_decide_eq_true (fb z7 15 rfl))
  have e_i_BadCode___init__ : PySem.W.isFn K (.ref (He.ma K (He.ga K "BadCode") "__init__")) = true := (fb z7 16 rfl)
  have e_a_TwoWays___init__ : PySem.W.findIn K (.ref (He.ga K "TwoWays")) "__init__" = some (some (.ref (He.ma K (He.ga K "TwoWays") "__init__"))) := (of_decide_eq_true (fb z7 17 rfl))
  have e_i_TwoWays___init__ : PySem.W.isFn K (.ref (He.ma K (He.ga K "TwoWays") "__init__")) = true := (fb z7 18 rfl)
  have e_a_NoMessage___init__ : PySem.W.findIn K (.ref (He.ga K "NoMessage")) "__init__" = some (some (.ref (He.ma K (He.ga K "NoMessage") "__init__"))) := (of_decide_eq_true (fb z7 19 rfl))
  have e_i_NoMessage___init__ : PySem.W.isFn K (.ref (He.ma K (He.ga K "NoMessage") "__init__")) = true := (fb z7 20 rfl)
  have e_a_HasBeginnings___init__ : PySem.W.findIn K (.ref (He.ga K "HasBeginnings")) "__init__" = some (some (.ref (He.ma K (He.ga K "HasBeginnings") "__init__"))) := (of_decide_eq_true (fb z7 21 rfl))
  have e_i_HasBeginnings___init__ : PySem.W.isFn K (.ref (He.ma K (He.ga K "HasBeginnings") "__init__")) = true := (fb z7 22 rfl)
  have e_a_TooMuch___init__ : PySem.W.findIn K (.ref (He.ga K "TooMuch")) "__init__" = some (some (.ref (He.ma K (He.ga K "TooMuch") "__init__"))) := (of_decide_eq_true (fb z7 23 rfl))
  have e_i_TooMuch___init__ : PySem.W.isFn K (.ref (He.ma K (He.ga K "TooMuch") "__init__")) = true := (fb z7 24 rfl)
  have e_a_BadLot___init__ : PySem.W.findIn K (.ref (He.ga K "BadLot")) "__init__" = some (some (.ref (He.ma K (He.ga K "BadLot") "__init__"))) := (of_decide_eq_true (fb z8 0 rfl))
  have e_i_BadLot___init__ : PySem.W.isFn K (.ref (He.ma K (He.ga K "BadLot") "__init__")) = true := (fb z8 1 rfl)
  have e_a_TooFar___init__ : PySem.W.findIn K (.ref (He.ga K "TooFar")) "__init__" = some (some (.ref (He.ma K (He.ga K "TooFar") "__init__"))) := (of_decide_eq_true (fb z8 2 rfl))
  have e_i_TooFar___init__ : PySem.W.isFn K (.ref (He.ma K (He.ga K "TooFar") "__init__")) = true := (fb z8 3 rfl)
  have e_a_TooMany___init__ : PySem.W.findIn K (.ref (He.ga K "TooMany")) "__init__" = some (some (.ref (He.ma K (He.ga K "TooMany") "__init__"))) := (of_decide_eq_true (fb z8 4 rfl))
  have e_i_TooMany___init__ : PySem.W.isFn K (.ref (He.ma K (He.ga K "TooMany") "__init__")) = true := (fb z8 5 rfl)
  have e_a_Doubles___init__ : PySem.W.findIn K (.ref (He.ga K "Doubles")) "__init__" = some (some (.ref (He.ma K (He.ga K "Doubles") "__init__"))) := (of_decide_eq_true (fb z8 6 rfl))
  have e_i_Doubles___init__ : PySem.W.isFn K (.ref (He.ma K (He.ga K "Doubles") "__init__")) = true := (fb z8 7 rfl)
  have e_a_NotThin___init__ : PySem.W.findIn K (.ref (He.ga K "NotThin")) "__init__" = some (some (.ref (He.ma K (He.ga K "NotThin") "__init__"))) := (of_decide_eq_true (fb z8 8 rfl))
  have e_i_NotThin___init__ : PySem.W.isFn K (.ref (He.ma K (He.ga K "NotThin") "__init__")) = true := (fb z8 9 rfl)
  have e_a_BadName___init__ : PySem.W.findIn K (.ref (He.ga K "BadName")) "__init__" = some (some (.ref (He.ma K (He.ga K "BadName") "__init__"))) := (of_decide_eq_true (fb z8 10 rfl))
  have e_i_BadName___init__ : PySem.W.isFn K (.ref (He.ma K (He.ga K "BadName") "__init__")) = true := (fb z8 11 rfl)
  have e_a_NameTaken___init__ : PySem.W.findIn K (.ref (He.ga K "NameTaken")) "__init__" = some (some (.ref (He.ma K (He.ga K "NameTaken") "__init__"))) := (of_decide_eq_true (fb z8 12 rfl))
  have e_i_NameTaken___init__ : PySem.W.isFn K (.ref (He.ma K (He.ga K "NameTaken") "__init__")) = true := (fb z8 13 rfl)
  have e_a_NoBook___init__ : PySem.W.findIn K (.ref (He.ga K "NoBook")) "__init__" = some (some (.ref (He.ma K (He.ga K "NoBook") "__init__"))) := (of_decide_eq_true (fb z8 14 rfl))
  have e_i_NoBook___init__ : PySem.W.isFn K (.ref (He.ma K (He.ga K "NoBook") "__init__")) = true := (fb z8 15 rfl)
  have e_a_NoName___init__ : PySem.W.findIn K (.ref (He.ga K "NoName")) "__init__" = some (some (.ref (He.ma K (He.ga K "NoName") "__init__"))) := (of_decide_eq_true (fb z8 16 rfl))
  have e_i_NoName___init__ : PySem.W.isFn K (.ref (He.ma K (He.ga K "NoName") "__init__")) = true := (fb z8 17 rfl)
  have e_a_NoWordLeft___init__ : PySem.W.findIn K (.ref (He.ga K "NoWordLeft")) "__init__" = some (some (.ref (He.ma K (He.ga K "NoWordLeft") "__init__"))) := (of_decide_eq_true (fb z8 18 rfl))
  have e_i_NoWordLeft___init__ : PySem.W.isFn K (.ref (He.ma K (He.ga K "NoWordLeft") "__init__")) = true := (fb z8 19 rfl)
  have e_a_IssuedBefore___init__ : PySem.W.findIn K (.ref (He.ga K "IssuedBefore")) "__init__" = some (some (.ref (He.ma K (He.ga K "IssuedBefore") "__init__"))) := (of_decide_eq_true (fb z8 20 rfl))
  have e_i_IssuedBefore___init__ : PySem.W.isFn K (.ref (He.ma K (He.ga K "IssuedBefore") "__init__")) = true := (fb z8 21 rfl)
  have e_a_NotDrawn___init__ : PySem.W.findIn K (.ref (He.ga K "NotDrawn")) "__init__" = some (some (.ref (He.ma K (He.ga K "NotDrawn") "__init__"))) := (of_decide_eq_true (fb z8 22 rfl))
  have e_i_NotDrawn___init__ : PySem.W.isFn K (.ref (He.ma K (He.ga K "NotDrawn") "__init__")) = true := (fb z8 23 rfl)
  have e_a_NotInForce___init__ : PySem.W.findIn K (.ref (He.ga K "NotInForce")) "__init__" = some (some (.ref (He.ma K (He.ga K "NotInForce") "__init__"))) := (of_decide_eq_true (fb z8 24 rfl))
  have e_i_NotInForce___init__ : PySem.W.isFn K (.ref (He.ma K (He.ga K "NotInForce") "__init__")) = true := (fb z9 0 rfl)
  have e_a_BadSign___init__ : PySem.W.findIn K (.ref (He.ga K "BadSign")) "__init__" = some (some (.ref (He.ma K (He.ga K "BadSign") "__init__"))) := (of_decide_eq_true (fb z9 1 rfl))
  have e_i_BadSign___init__ : PySem.W.isFn K (.ref (He.ma K (He.ga K "BadSign") "__init__")) = true := (fb z9 2 rfl)
  have e_a_StillInForce___init__ : PySem.W.findIn K (.ref (He.ga K "StillInForce")) "__init__" = some (some (.ref (He.ma K (He.ga K "StillInForce") "__init__"))) := (of_decide_eq_true (fb z9 3 rfl))
  have e_i_StillInForce___init__ : PySem.W.isFn K (.ref (He.ma K (He.ga K "StillInForce") "__init__")) = true := (fb z9 4 rfl)
  have e_a_BadDeed___init__ : PySem.W.findIn K (.ref (He.ga K "BadDeed")) "__init__" = some (some (.ref (He.ma K (He.ga K "BadDeed") "__init__"))) := (of_decide_eq_true (fb z9 5 rfl))
  have e_i_BadDeed___init__ : PySem.W.isFn K (.ref (He.ma K (He.ga K "BadDeed") "__init__")) = true := (fb z9 6 rfl)
  have e_a_is_word : PySem.W.nsIn K mainGlobals "is_word" = some (some (.ref (He.ga K "is_word"))) := (of_decide_eq_true (fb z9 7 rfl))
  have e_a_is_ahead : PySem.W.nsIn K mainGlobals "is_ahead" = some (some (.ref (He.ga K "is_ahead"))) := (of_decide_eq_true (fb z9 8 rfl))
  have e_a_common_beginning : PySem.W.nsIn K mainGlobals "common_beginning" = some (some (.ref (He.ga K "common_beginning"))) := (of_decide_eq_true (fb z9 9 rfl))
  have e_a__law_deck : PySem.W.nsIn K mainGlobals "_law_deck" = some (some (.ref (He.ga K "_law_deck"))) := (of_decide_eq_true (fb z9 10 rfl))
  have e_a__law_draw : PySem.W.nsIn K mainGlobals "_law_draw" = some (some (.ref (He.ga K "_law_draw"))) := (of_decide_eq_true (fb z9 11 rfl))
  have e_a__law_pick : PySem.W.nsIn K mainGlobals "_law_pick" = some (some (.ref (He.ga K "_law_pick"))) := (of_decide_eq_true (fb z9 12 rfl))
  have e_a__law_word : PySem.W.nsIn K mainGlobals "_law_word" = some (some (.ref (He.ga K "_law_word"))) := (of_decide_eq_true (fb z9 13 rfl))
  have e_a__law_common : PySem.W.nsIn K mainGlobals "_law_common" = some (some (.ref (He.ga K "_law_common"))) := (of_decide_eq_true (fb z9 14 rfl))
  have e_a__law_two_right : PySem.W.nsIn K mainGlobals "_law_two_right" = some (some (.ref (He.ga K "_law_two_right"))) := (of_decide_eq_true (fb z9 15 rfl))
  have e_a__law_errors_one : PySem.W.nsIn K mainGlobals "_law_errors_one" = some (some (.ref (He.ga K "_law_errors_one"))) := (of_decide_eq_true (fb z9 16 rfl))
  have e_a__law_errors_two : PySem.W.nsIn K mainGlobals "_law_errors_two" = some (some (.ref (He.ga K "_law_errors_two"))) := (of_decide_eq_true (fb z9 17 rfl))
  have e_a__law_errors_three : PySem.W.nsIn K mainGlobals "_law_errors_three" = some (some (.ref (He.ga K "_law_errors_three"))) := (of_decide_eq_true (fb z9 18 rfl))
  have e_a__law_kinds : PySem.W.nsIn K mainGlobals "_law_kinds" = some (some (.ref (He.ga K "_law_kinds"))) := (of_decide_eq_true (fb z9 19 rfl))
  have e_a__law_is_alone : PySem.W.nsIn K mainGlobals "_law_is_alone" = some (some (.ref (He.ga K "_law_is_alone"))) := (of_decide_eq_true (fb z9 20 rfl))
  have e_a__law_errors_right : PySem.W.nsIn K mainGlobals "_law_errors_right" = some (some (.ref (He.ga K "_law_errors_right"))) := (of_decide_eq_true (fb z9 21 rfl))
  have e_a__law_is_caught : PySem.W.nsIn K mainGlobals "_law_is_caught" = some (some (.ref (He.ga K "_law_is_caught"))) := (of_decide_eq_true (fb z9 22 rfl))
  have e_a_law : PySem.W.nsIn K mainGlobals "law" = some (some (.ref (He.ga K "law"))) := (of_decide_eq_true (fb z9 23 rfl))
  have e_z_all : PySem.W.nsIn K mainGlobals "all" = some none := (of_decide_eq_true (fb z9 24 rfl))
  have e_z_bool : PySem.W.nsIn K mainGlobals "bool" = some none := (of_decide_eq_true (fb z10 0 rfl))
  have e_z_dict : PySem.W.nsIn K mainGlobals "dict" = some none := (of_decide_eq_true (fb z10 1 rfl))
  have e_z_enumerate : PySem.W.nsIn K mainGlobals "enumerate" = some none := (of_decide_eq_true (fb z10 2 rfl))
  have e_z_int : PySem.W.nsIn K mainGlobals "int" = some none := (of_decide_eq_true (fb z10 3 rfl))
  have e_z_isinstance : PySem.W.nsIn K mainGlobals "isinstance" = some none := (of_decide_eq_true (fb z10 4 rfl))
  have e_z_len : PySem.W.nsIn K mainGlobals "len" = some none := (of_decide_eq_true (fb z10 5 rfl))
  have e_z_list : PySem.W.nsIn K mainGlobals "list" = some none := (of_decide_eq_true (fb z10 6 rfl))
  have e_z_min : PySem.W.nsIn K mainGlobals "min" = some none := (of_decide_eq_true (fb z10 7 rfl))
  have e_z_range : PySem.W.nsIn K mainGlobals "range" = some none := (of_decide_eq_true (fb z10 8 rfl))
  have e_z_repr : PySem.W.nsIn K mainGlobals "repr" = some none := (of_decide_eq_true (fb z10 9 rfl))
  have e_z_str : PySem.W.nsIn K mainGlobals "str" = some none := (of_decide_eq_true (fb z10 10 rfl))
  have e_z_tuple : PySem.W.nsIn K mainGlobals "tuple" = some none := (of_decide_eq_true (fb z10 11 rfl))
  have e_z_zip : PySem.W.nsIn K mainGlobals "zip" = some none := (of_decide_eq_true (fb z10 12 rfl))
  have e_z_ValueError : PySem.W.nsIn K mainGlobals "ValueError" = some none := (of_decide_eq_true (fb z10 13 rfl))
  have e_z_LookupError : PySem.W.nsIn K mainGlobals "LookupError" = some none := (of_decide_eq_true (fb z10 14 rfl))
  have e_z_ArithmeticError : PySem.W.nsIn K mainGlobals "ArithmeticError" = some none := (of_decide_eq_true (fb z10 15 rfl))
  have e_z_Exception : PySem.W.nsIn K mainGlobals "Exception" = some none := (of_decide_eq_true (fb z10 16 rfl))
  have e_z_TypeError : PySem.W.nsIn K mainGlobals "TypeError" = some none := (of_decide_eq_true (fb z10 17 rfl))
  obtain ⟨hb, hF⟩ := all_mk (l := P) (w := w) KX G hfa e_g_BadFormat e_g_BadSheet e_g_BadText e_g_BadLetters e_g_NotIn e_g_TooLong e_g_UnlikeRows e_g_NoWords e_g_Endless e_g_Uneven e_g_BadCode e_g_TwoWays e_g_NoMessage e_g_TooMuch e_g_BadLot e_g_TooFar e_g_TooMany e_g_Doubles e_g_NotThin e_g_BadName e_g_NameTaken e_g_NoBook e_g_NoName e_g_NoWordLeft e_g_IssuedBefore e_g_NotDrawn e_g_NotInForce e_g_BadSign e_g_StillInForce e_g_BadDeed e_g_HasBeginnings e_g_NothingToUndo e_g_InvalidCommand e_g_SerialError e_x_BadFormat e_x_BadSheet e_x_BadText e_x_BadLetters e_x_NotIn e_x_TooLong e_x_UnlikeRows e_x_NoWords e_x_Endless e_x_Uneven e_x_BadCode e_x_TwoWays e_x_NoMessage e_x_TooMuch e_x_BadLot e_x_TooFar e_x_TooMany e_x_Doubles e_x_NotThin e_x_BadName e_x_NameTaken e_x_NoBook e_x_NoName e_x_NoWordLeft e_x_IssuedBefore e_x_NotDrawn e_x_NotInForce e_x_BadSign e_x_StillInForce e_x_BadDeed e_x_HasBeginnings e_x_NothingToUndo e_x_InvalidCommand e_o_BadFormat e_o_BadSheet e_o_BadText e_o_BadLetters e_o_NotIn e_o_TooLong e_o_UnlikeRows e_o_NoWords e_o_Endless e_o_Uneven e_o_BadCode e_o_TwoWays e_o_NoMessage e_o_TooMuch e_o_BadLot e_o_TooFar e_o_TooMany e_o_Doubles e_o_NotThin e_o_BadName e_o_NameTaken e_o_NoBook e_o_NoName e_o_NoWordLeft e_o_IssuedBefore e_o_NotDrawn e_o_NotInForce e_o_BadSign e_o_StillInForce e_o_BadDeed e_o_HasBeginnings e_n_BadFormat e_n_BadSheet e_n_BadText e_n_BadLetters e_n_NotIn e_n_TooLong e_n_UnlikeRows e_n_NoWords e_n_Endless e_n_Uneven e_n_BadCode e_n_TwoWays e_n_NoMessage e_n_TooMuch e_n_BadLot e_n_TooFar e_n_TooMany e_n_Doubles e_n_NotThin e_n_BadName e_n_NameTaken e_n_NoBook e_n_NoName e_n_NoWordLeft e_n_IssuedBefore e_n_NotDrawn e_n_NotInForce e_n_BadSign e_n_StillInForce e_n_BadDeed e_n1_HasBeginnings e_n2_HasBeginnings e_q_NothingToUndo e_k_NothingToUndo e_q_InvalidCommand e_k_InvalidCommand e_kt_BadFormat e_kt_BadSheet e_kt_BadText e_kt_BadLetters e_kt_NotIn e_kt_TooLong e_kt_UnlikeRows e_kt_NoWords e_kt_Endless e_kt_Uneven e_kt_BadCode e_kt_TwoWays e_kt_NoMessage e_kt_TooMuch e_kt_BadLot e_kt_TooFar e_kt_TooMany e_kt_Doubles e_kt_NotThin e_kt_BadName e_kt_NameTaken e_kt_NoBook e_kt_NoName e_kt_NoWordLeft e_kt_IssuedBefore e_kt_NotDrawn e_kt_NotInForce e_kt_BadSign e_kt_StillInForce e_kt_BadDeed e_kt_HasBeginnings e_kt_NothingToUndo e_kt_InvalidCommand e_ap e_e1 e_e2 e_a_BadFormat___init__ e_i_BadFormat___init__ (fun_ofD F_BadFormat___init__) e_a_BadSheet___init__ e_i_BadSheet___init__ (fun_ofD F_BadSheet___init__) e_a_BadText___init__ e_i_BadText___init__ (fun_ofD F_BadText___init__) e_a_BadLetters___init__ e_i_BadLetters___init__ (fun_ofD F_BadLetters___init__) e_a_NotIn___init__ e_i_NotIn___init__ (fun_ofD F_NotIn___init__) e_a_TooLong___init__ e_i_TooLong___init__ (fun_ofD F_TooLong___init__) e_a_UnlikeRows___init__ e_i_UnlikeRows___init__ (fun_ofD F_UnlikeRows___init__) e_a_NoWords___init__ e_i_NoWords___init__ (fun_ofD F_NoWords___init__) e_a_Endless___init__ e_i_Endless___init__ (fun_ofD F_Endless___init__) e_a_Uneven___init__ e_i_Uneven___init__ (fun_ofD F_Uneven___init__) e_a_BadCode___init__ e_i_BadCode___init__ (fun_ofD F_BadCode___init__) e_a_TwoWays___init__ e_i_TwoWays___init__ (fun_ofD F_TwoWays___init__) e_a_NoMessage___init__ e_i_NoMessage___init__ (fun_ofD F_NoMessage___init__) e_a_HasBeginnings___init__ e_i_HasBeginnings___init__ (fun_ofD F_HasBeginnings___init__) e_a_TooMuch___init__ e_i_TooMuch___init__ (fun_ofD F_TooMuch___init__) e_a_BadLot___init__ e_i_BadLot___init__ (fun_ofD F_BadLot___init__) e_a_TooFar___init__ e_i_TooFar___init__ (fun_ofD F_TooFar___init__) e_a_TooMany___init__ e_i_TooMany___init__ (fun_ofD F_TooMany___init__) e_a_Doubles___init__ e_i_Doubles___init__ (fun_ofD F_Doubles___init__) e_a_NotThin___init__ e_i_NotThin___init__ (fun_ofD F_NotThin___init__) e_a_BadName___init__ e_i_BadName___init__ (fun_ofD F_BadName___init__) e_a_NameTaken___init__ e_i_NameTaken___init__ (fun_ofD F_NameTaken___init__) e_a_NoBook___init__ e_i_NoBook___init__ (fun_ofD F_NoBook___init__) e_a_NoName___init__ e_i_NoName___init__ (fun_ofD F_NoName___init__) e_a_NoWordLeft___init__ e_i_NoWordLeft___init__ (fun_ofD F_NoWordLeft___init__) e_a_IssuedBefore___init__ e_i_IssuedBefore___init__ (fun_ofD F_IssuedBefore___init__) e_a_NotDrawn___init__ e_i_NotDrawn___init__ (fun_ofD F_NotDrawn___init__) e_a_NotInForce___init__ e_i_NotInForce___init__ (fun_ofD F_NotInForce___init__) e_a_BadSign___init__ e_i_BadSign___init__ (fun_ofD F_BadSign___init__) e_a_StillInForce___init__ e_i_StillInForce___init__ (fun_ofD F_StillInForce___init__) e_a_BadDeed___init__ e_i_BadDeed___init__ (fun_ofD F_BadDeed___init__) e_a_is_word (fun_ofD F_is_word) e_a_is_ahead (fun_ofD F_is_ahead) e_a_common_beginning (fun_ofD F_common_beginning) e_a__law_deck (fun_ofD F__law_deck) e_a__law_draw (fun_ofD F__law_draw) e_a__law_pick (fun_ofD F__law_pick) e_a__law_word (fun_ofD F__law_word) e_a__law_common (fun_ofD F__law_common) e_a__law_two_right (fun_ofD F__law_two_right) e_a__law_errors_one (fun_ofD F__law_errors_one) e_a__law_errors_two (fun_ofD F__law_errors_two) e_a__law_errors_three (fun_ofD F__law_errors_three) e_a__law_kinds (fun_ofD F__law_kinds) e_a__law_is_alone (fun_ofD F__law_is_alone) e_a__law_errors_right (fun_ofD F__law_errors_right) e_a__law_is_caught (fun_ofD F__law_is_caught) e_a_law (fun_ofD F_law) e_z_all e_z_bool e_z_dict e_z_enumerate e_z_int e_z_isinstance e_z_len e_z_list e_z_min e_z_range e_z_repr e_z_str e_z_tuple e_z_zip e_z_ValueError e_z_LookupError e_z_ArithmeticError e_z_Exception e_z_TypeError
  exact ⟨K, _, spLaw K, KX, hb, fun _ a ns hl _ hS => ⟨a, ns, rfl, hS, hl, fun _ => rfl⟩, hF⟩
end SG
open PySem PySem.W PySem.Calls PyProof.Rows
theorem PySem.Challenge.cw_serialhouse_k00_words_holds : PySem.Challenge.rw_serialhouse_k00_words.Holds := by
  w_on; o_law
  refine HandSHeadRun.head_any (r := OpenLaw.row PySem.Challenge.rw_serialhouse_k00_words) (q := SG.qv) (H := SG.hk) (ob := SG.ob) (M := 16000) (loose := SG.loose) (d := HandSHeadRun.topDef (OpenLaw.row PySem.Challenge.rw_serialhouse_k00_words).prog 53) (kwd := []) SG.ob_eq
    (by kernel_rfl) (fun s => by kernel_rfl) SG.run (by kernel_rfl) (by kernel_rfl) (by kernel_rfl) (by rfl) (by first | assumption | decide +kernel) (by decide +kernel) ⟨rfl, rfl, rfl, rfl, rfl, by decide +kernel⟩ ?hw ?hc
  case hw => w_witness2
  case hc =>
    refine SG.walk_gE (l := PySem.Challenge.rw_serialhouse_k00_words) (n := 63) (k := 5) (x := "_law_script") rfl (by decide) (by kernel_rfl) ⟨rfl, by decide, by decide⟩ ?F
    intro w mg fa h Y G hmg0
    have hmg : mg ("law" : PySem.Str) = some (.ref fa) := by
      have e : (HandSHeadRun.topDef (OpenLaw.row PySem.Challenge.rw_serialhouse_k00_words).prog 53).name = ("law" : PySem.Str) := by kernel_rfl
      rw [← e]
      exact hmg0
    exact SG.head_ok Y G hmg
