import PyProof.Rows.All
import Wide.All
import OpenK.AllK
import Wide.FinOn
import HandS.Base
import HandS.Call
import HandS.Ends
import HandS.Words
import HandS.Exc
import HandS.ExcInit
import HandS.ExcIs
import HandS.ExcValue
import HandS.List
import HandS.Comp
import HandS.Wide
import HandS.TupAny
import HandS.Style
import HandS.TupMul
import HandS.Sort
import HandS.ForMost
import HandS.WideBits
import HandS.Deep
import HandS.IsInst
import KE.KTupSum
import HandS.Iter
import HandS.Zip
import HandS.HotCalls
import HandS.TryMany
import HandS.WordsExc
import KE.KStateDown
import HandS.Defaults
import HandS.Head0
import HandS.Head1
import HandS.Head2
import HandS.HeadHook1
import HandS.HeadHook2
import PyProof.ExcBaseAll.ValueError
import PyProof.ReprLen
import PySem.Challenge.RW_weylweights_k01_errors_each_of_its_own
set_option Elab.async false
set_option linter.all false
set_option maxRecDepth 100000
/-! Fw0: a def's promise where no repr is under way; the law's end over it. -/
namespace Fw
open PySem PySem.Spec PyProof.Rows L2
structure FnG (P : Program) (w : World) (K : PySem.W.Frag) (mg : Str → Option Value) (base : Heap) (CX : CXT) (k : Nat) (f : Addr) (fd : FuncData) (ps : List Str) (sp : Sp) : Prop where
  len : ∀ vs H Q E, sp vs H Q E → vs.length = ps.length
  run : ∀ (A : Around) (outer : List PySem.Env) (s : Shared) (H : Hp) (args : Args) (us : List Value) (vs : List V) (Q : VK) (E : XK), A.guards = some [] → Room k A → Env0 P w K mg base A outer s H → BindsTo s fd args (ps.zip us) → Vals vs us → sp vs H Q E →
    codeAny (model P w) A (.call (.ref f) args) (CR CX outer P w H s Q E) s
theorem FnG.mono {P : Program} {w : World} {K : PySem.W.Frag} {mg : Str → Option Value} {base : Heap} {CX : CXT} {j k : Nat} {f : Addr} {fd : FuncData} {ps : List Str} {sp : Sp} (F : FnG P w K mg base CX j f fd ps sp) (h : j ≤ k) :
    FnG P w K mg base CX k f fd ps sp := ⟨F.len, fun A outer s H args us vs Q E hg hr => F.run A outer s H args us vs Q E hg (hr.mono h)⟩
theorem FnG.imp {P : Program} {w : World} {K : PySem.W.Frag} {mg : Str → Option Value} {base : Heap} {CX : CXT} {k : Nat} {f : Addr} {fd : FuncData} {ps : List Str} {sp sp' : Sp} (F : FnG P w K mg base CX k f fd ps sp)
    (h : ∀ vs H Q E, sp' vs H Q E → sp vs H Q E) : FnG P w K mg base CX k f fd ps sp' :=
  ⟨fun vs H Q E q => F.len vs H Q E (h _ _ _ _ q), fun A outer s H args us vs Q E hg hr he hb hv hs => F.run A outer s H args us vs Q E hg hr he hb hv (h _ _ _ _ hs)⟩

section
variable {X : Cx} {CX : CXT} {k : Nat} {f C : Addr} {fd : FuncData} {ps : List Str} {sp : Sp} {dvs : List V} {ds : List Value} {E : XK} {x m : Str} {p pos apos : Pos} {e o : Expr} {es : List Expr} {ta : TE} {t : TA}
theorem run_fnG {pins : List (Addr × Obj)} {σ : L2.St} {H : Hp} {s : Shared} {Q : VK} {us : List Value} {vs : List V} (F : FnG X.prog X.w X.K X.mg X.base CX k f fd ps sp) (hg : X.A.guards = some []) (hr : Room k X.A) (hb : Binds X.K fd ps ds) (hd : Vals dvs ds) (hx : Passes CX X E)
    (I : Inv X pins σ H s) (r : Vals vs us) (h : sp (vs ++ dvs) H Q E) : wpAny (model X.prog X.w) X.A (call (.ref f) us) (EP X pins σ Q) X.xe s := by
  have r2 : Vals (vs ++ dvs) (us ++ ds) := r.append hd
  have hl : (us ++ ds).length = ps.length := by rw [← r2.length]; exact F.len _ _ _ _ h
  refine wpAny_call (codeAny_mono (F.run X.A X.stack s H ⟨us, []⟩ (us ++ ds) (vs ++ dvs) Q E hg hr I.env0 (hb s us I.kIn hl) r2 h) fun r s' hq => ?_)
  cases r with
  | error e => exact hx pins σ H s e s' I hq
  | ok fl =>
    cases fl with
    | ret u => exact I.after hq
    | next => exact False.elim hq
    | brk => exact False.elim hq
    | cont => exact False.elim hq
theorem pe_callG (F : FnG X.prog X.w X.K X.mg X.base CX k f fd ps sp) (hgd : X.A.guards = some []) (hr : Room k X.A) (hg : Gl X x) (hm : X.mg x = some (.ref f)) (hk : PySem.W.keepIn X.K (.ref f) = true) (hb : Binds X.K fd ps ds) (hd : Vals dvs ds) (hx : Passes CX X E)
    (ha : PA X (e :: es) t) (hdb : (x == ("__debug__" : Str)) = false := by decide) (he : starEach (e :: es) X.env = (false, eval e X.env) :: starEach es X.env := by rfl) (hpl : (backTo pos (starEach es X.env)).any (·.1) = false := by rfl) :
    PE X (.Call (.Name x p) (e :: es) [] pos) (tCall sp dvs E t) := by
  refine ⟨fun pins s σ H Q I h => ?_⟩
  refine wpAny_Call_Name_kw (ld_glob I hg hm ?_ hdb)
  refine PySem.W.callWith_K (h₀ := X.base) I.ok.mod.kin hk (thn (ha.run pos pins s σ H _ I h) fun us s1 ⟨vs, H1, I1, r, q⟩ => ⟨I1.kIn, ?_⟩) he hpl
  exact run_fnG F hgd hr hb hd hx I1 r q
variable {ks : List Str} {kws : List Keyword} {tk : TA} {g : List Value → List Value → List Value} {gV : List V → List V → List V}
theorem run_fnkG {pins : List (Addr × Obj)} {σ : L2.St} {H : Hp} {s : Shared} {Q : VK} {us ws : List Value} {vs zs : List V} (F : FnG X.prog X.w X.K X.mg X.base CX k f fd ps sp) (hgd : X.A.guards = some []) (hr : Room k X.A) (hb : KBinds X.K fd ps ks g gV) (hx : Passes CX X E)
    (I : Inv X pins σ H s) (r : Vals vs us) (rz : Vals zs ws) (h : sp (gV vs zs) H Q E) : wpAny (model X.prog X.w) X.A (call (.ref f) us (ks.zip ws)) (EP X pins σ Q) X.xe s := by
  have r2 := hb.rel r rz
  have hl : (g us ws).length = ps.length := by rw [← r2.length]; exact F.len _ _ _ _ h
  refine wpAny_call (codeAny_mono (F.run X.A X.stack s H ⟨us, ks.zip ws⟩ (g us ws) (gV vs zs) Q E hgd hr I.env0 (hb.to s us ws I.kIn hl) r2 h) fun r s' hq => ?_)
  cases r with
  | error e => exact hx pins σ H s e s' I hq
  | ok fl =>
    cases fl with
    | ret u => exact I.after hq
    | next => exact False.elim hq
    | brk => exact False.elim hq
    | cont => exact False.elim hq
end

theorem guards_deeper {A : Around} (h : A.guards = some []) (env : PySem.Env) : (A.deeper env).guards = some [] := h
theorem fn_ofG {CX : CXT} {P : Program} {w : World} {K : PySem.W.Frag} {mg : Str → Option Value} {base : Heap} {k : Nat} {f : Addr} {name qual : Str} {params : Arguments} {body : List Stmt} {scope : Scope} {dV kV doc pm cdv ct oc : Value} {an od : Option Addr}
    {osl : Array (Option Value)} {N ps : List Str} {sp : Sp} (lk : K.lookup f = some ⟨oc, od, .func (PySem.W.fnOf name qual params body scope dV kV doc pm an cdv ct), osl⟩) (hcd : PySem.W.codeIn K cdv qual = true) (S : FnScope N ps scope)
    (len : ∀ vs H Q E, sp vs H Q E → vs.length = ps.length)
    (hbody : ∀ (A : Around) (outer : List PySem.Env) (s : Shared) (H : Hp) (vs : List V) (Q : VK) (E : XK), A.guards = some [] → Room k (A.deeper (envOfC qual scope s.heap.objs.size f cdv)) → sp vs H Q E →
      ∃ t, PSs (cxOf CX P w K mg base N qual scope f cdv A outer s H E) body t ∧ t { nx := fun _ H' => Q .non H', rt := Q } (L2.start N vs) H) :
    FnG P w K mg base CX (k + 1) f (PySem.W.fnOf name qual params body scope dV kV doc pm an cdv ct) ps sp := by
  refine ⟨len, fun A outer s H args us vs Q E hgd hr e0 hb r hsp => ?_⟩
  have hl := len _ _ _ _ hsp
  have KX : K.In s.heap := e0.mod.kin.keeps fun b o e => (e0.bs b o e).1
  have lim : s.heap.NoLimit := e0.mod.nolimit.keeps fun b o e => (e0.bs b o e).1
  have hkind : ∀ y ∈ ps.zip us, scope.names.lookup y.1 = some .local ∨ (scope.names.lookup y.1 = some .cell ∧ ((cellsFrom (s.heap.objs.size + 1) scope.names []).lookup y.1).isSome = true) := fun ⟨n, v⟩ hy => by
    rcases S.par n (List.of_mem_zip hy).1 with q | q
    · exact .inl q
    · exact .inr ⟨q, PySem.W.cellsFrom_some _ _ _ (.inl q)⟩
  refine codeAny_call_function hr.depth (KX _ _ lk) rfl S.co S.gen rfl (PySem.W.codeRec_of KX hcd) (hb _ _ _ _ ?_)
  refine wpAny_newFunctionEnv_cells S.kind hkind fun env he s1 x => ?_
  subst he
  refine ⟨lim.keeps x.toInCall.keep, codeAny_func ?_⟩
  obtain ⟨t, ht, hq⟩ := hbody A outer s H vs Q E hgd (hr.deeper _) hsp
  have I : Inv (cxOf CX P w K mg base N qual scope f cdv A outer s H E) [] (L2.start N vs) H s1 := inv_start S hr.hd e0 hl r x
  refine wpAny_mono (ht.run [] s1 (L2.start N vs) H _ I hq) (fun fl s' hs => ?_) fun e s' hs => hs
  have fin : ∀ {σ' : L2.St} {H' : Hp} {v : V} {u : Value}, Inv (cxOf CX P w K mg base N qual scope f cdv A outer s H E) [] σ' H' s' → RelV v u → Q v H' → CE outer P w H s Q u s' :=
    fun {σ' H' v u} J rv q => ⟨v, H', J.os, J.bare, J.base, J.hok, rv, q⟩
  cases fl with
  | ret u =>
    obtain ⟨v, σ', H', J, rv, q⟩ := hs
    exact fin J rv q
  | next =>
    obtain ⟨σ', H', J, q⟩ := hs
    exact fin (v := V.non) (u := Value.none) J rfl q
  | brk =>
    obtain ⟨_, _, _, q⟩ := hs
    exact False.elim q
  | cont =>
    obtain ⟨_, _, _, q⟩ := hs
    exact False.elim q
theorem okG {P : Program} {w : World} {K : PySem.W.Frag} {mg : Str → Option Value} {base : Heap} {x qual : Str} {st : Stmt} {f : Addr} {fd : FuncData} {N ps : List Str} {k : Nat} {sp : Sp} (F : L2.Fun K x qual st f fd) (S : FnScope N ps (defScope st)) (len : ∀ vs H Q E, sp vs H Q E → vs.length = ps.length)
    (hbody : ∀ (cdv : Value) (A : Around) (outer : List PySem.Env) (s : Shared) (H : Hp) (vs : List V) (Q : VK) (E : XK), A.guards = some [] → Room k (A.deeper (envOfC qual (defScope st) s.heap.objs.size f cdv)) → sp vs H Q E →
      ∃ t, PSs (cxOf CX0 P w K mg base N qual (defScope st) f cdv A outer s H E).nox (defBody st) t ∧ t { nx := fun _ H' => Q .non H', rt := Q } (L2.start N vs) H) : FnG P w K mg base CX0 (k + 1) f fd ps sp := by
  obtain ⟨oc, od, kV, doc, pm, an, cdv, ct, osl, rfl, lk, hcd⟩ := F.ex
  refine fn_ofG lk hcd S len fun A outer s H vs Q E hg hr hsp => ?_
  obtain ⟨t, h, q⟩ := hbody cdv A outer s H vs Q E hg hr hsp
  exact ⟨t, h.nox, q⟩

/-- no object of the written part is a list -/
def noLst (K : PySem.W.Frag) : Bool := K.all fun p => match p.2.cls with
  | .type n => n != "list"
  | _ => true
theorem noLst_of {K : PySem.W.Frag} (h : noLst K = true) {a : Addr} {o : Obj} (e : K.lookup a = some o) : o.cls ≠ .type "list" := by
  have hm : (a, o) ∈ K := by
    have key : ∀ (K : List (Addr × Obj)), K.lookup a = some o → (a, o) ∈ K := by
      intro K
      induction K with
      | nil => intro h; cases h
      | cons p K ih =>
        intro h
        obtain ⟨b, u⟩ := p
        rw [List.lookup_cons] at h
        by_cases hb : (a == b) = true
        · rw [hb] at h
          cases h
          rw [beq_iff_eq.mp hb]
          exact List.mem_cons_self
        · rw [Bool.not_eq_true] at hb
          rw [hb] at h
          exact List.mem_cons_of_mem _ (ih h)
    exact key K e
  have := List.all_eq_true.mp h (a, o) hm
  intro z
  simp only [z] at this
  exact absurd this (by decide)
theorem walkG {l : PySem.W.OpenLaw} {n k : Nat} {q : Program} {loose : List Str} {XP : (Str → Option Value) → Heap → Prop} {YP : World → Heap → Prop} {d : DefRec} {K : Params → PySem.W.Frag} {sp : World → Sp} {x : Str}
    (hn : l.most = some n) (hn2 : n ≤ sizeLine) (hdf : d.params.defaults = []) (hr : Room k callerA)
    (hY : ∀ (w : World) (h : Heap), YP w h → (K w.params).In h) (hK : ∀ w : World, noLst (K w.params) = true)
    (F : ∀ (w : World) (mg : Str → Option Value) (fa : Addr) (h : Heap), (K w.params).In h → h.Ns mainGlobals mg → mg d.name = some (.ref fa) →
      ∃ fd : FuncData, (∀ (s : Shared) (u : Value), BindsTo s fd ⟨[u], []⟩ [(x, u)]) ∧
        ∀ base : Heap, (K w.params).In base → base.Ns mainGlobals mg → FnG l.prog w (K w.params) mg base CX0 k fa fd [x] (sp w))
    (hsp : ∀ (w : World) (H : Hp) (a : Addr) (ns : List Int) (o : Obj), ns.length ≤ n → (∀ b, b ≠ a → H b = none) → H a = some (.frz o (.lst (ns.map V.int))) → sp w [.ref a] H (fun v H' => v = .bl true ∧ H' a = H a) fun _ _ _ => False) :
    PySem.W.WalkO q loose XP YP l.row.toRowW d [] (fun f vs => PySem.call f vs) := by
  refine Att.attach_call hn hdf fun w s₀ s₁ mg mb fa o pm cd doc a vs ns G Y ho hd hcd hmg hobj hints hlen hg => ?_
  have KX := hY w _ Y
  obtain ⟨fd, hb, hF⟩ := F w mg fa _ KX G.T.g hmg
  have rv := vals_ints hints
  have lenV := hints.length
  have hka : (K w.params).lookup a = none := by
    cases e : (K w.params).lookup a with
    | none => rfl
    | some o' =>
      exfalso
      have e1 := KX a o' e
      rw [hobj] at e1
      cases e1
      exact noLst_of (hK w) e rfl
  let H : Hp := fun b => if b = a then some (.frz { cls := .type "list", data := .seq vs.toArray } (.lst (ns.map V.int))) else none
  have hHa : H a = some (.frz { cls := .type "list", data := .seq vs.toArray } (.lst (ns.map V.int))) := if_pos rfl
  have hHb : ∀ b, b ≠ a → H b = none := fun b hb => if_neg hb
  have hok : HOk l.prog w H s₁.heap := fun b u z => by
    by_cases hb : b = a
    · subst hb
      rw [hHa] at z
      cases z
      exact ⟨hobj, by rw [List.length_map]; exact Nat.le_trans hlen hn2, vs, _, rv, hobj⟩
    · rw [hHb b hb] at z; cases z
  have base_of : ∀ {b : Addr} {o : Obj}, s₁.heap.get? b = some o → H b = none → (hidT s₁.heap H).get? b = some o := fun e n => hidT_get e n
  have noA : ∀ {b : Addr} {o : Obj} {es : Array DictEntry} {ep : Nat}, s₁.heap.get? b = some o → o.data = .dict es ep → H b = none := fun {b o es ep} e d => by
    by_cases hb : b = a
    · subst hb
      rw [hobj] at e; cases e
      have d' : Data.seq vs.toArray _ = Data.dict es ep := d
      cases d'
    · exact hHb b hb
  have nsK : ∀ {b : Addr} {m : Str → Option Value}, s₁.heap.Ns b m → (hidT s₁.heap H).Ns b m := fun {b m} ⟨o, es, ep, e, d, r⟩ => ⟨o, es, ep, base_of e (noA e d), d, r⟩
  have hKb : (K w.params).In (hidT s₁.heap H) := fun b o e => base_of (KX b o e) (hHb b fun z => by rw [z, hka] at e; cases e)
  have hM : Mod (K w.params) mg (hidT s₁.heap H) := ⟨hKb, nsK G.T.g, ⟨mb, nsK G.T.b, G.T.builtins⟩, let ⟨mc, h1, h2⟩ := G.T.nolimit; ⟨mc, nsK h1, h2⟩⟩
  have e0 : Env0 l.prog w (K w.params) mg (hidT s₁.heap H) callerA [] s₁ H := ⟨rfl, hM, fun b o e => of_hidT e, Nat.le_of_eq (hidT_size _ _), trivial, fun b hb => absurd (show b ∈ ([] : List Addr) from hb) (by simp), hok, .of_eq hg⟩
  refine codeAny_mono ((hF _ hKb (nsK G.T.g)).run callerA [] s₁ H ⟨[.ref a], []⟩ [.ref a] [.ref a] _ _ rfl hr e0 (hb s₁ (.ref a)) (.cons rfl .nil) (hsp w H a ns _ hlen hHb hHa)) fun r s' h => ?_
  cases r with
  | error e => exact False.elim h
  | ok fl =>
    cases fl with
    | next => exact False.elim h
    | brk => exact False.elim h
    | cont => exact False.elim h
    | ret u =>
      obtain ⟨v, H', os, bare, un, hok', r', q, q2⟩ := h
      subst q
      obtain rfl : u = Value.bool true := r'
      refine ⟨rfl, OldK.of_keep fun b o e => ?_, os, bare⟩
      by_cases hb : b = a
      · subst hb
        rw [hHa] at q2
        obtain ⟨e1, _⟩ := hok b _ hHa
        obtain ⟨e2, _⟩ := hok' b _ q2
        rw [e] at e1; cases e1
        exact e2
      · exact un.keep b o e (hHb b hb) (by intro z; exact absurd (show b ∈ ([] : List Addr) from z) (by simp)) (by simp)
end Fw
set_option Elab.async false
set_option linter.all false
set_option maxRecDepth 100000
set_option maxHeartbeats 4000000
/-! FwX: an own exception class called with keywords alone. -/
namespace FwX
open PySem PySem.HandSPX
section
variable {M : Model} {Am : Around} {Ex : Value → Shared → Prop} {hp : Heap} {gs : Array GenState} {dr : Drawn} {tk : Nat} {so : OsState}
variable {nm ql : Str} {C Nn : Addr} {bs bm bmB : List Value} {hd : Bool} {sn : List Str} {sub : List Value} {ab : Bool} {col : Option Bool} {dd : Option Addr} {k0 k1 k2 k3 k5 : Option Value} {Bs nI iI : String}
theorem ckNew (F : ExcBaseFacts Bs nI iI bmB) (hT : ∀ Y : String, bm.contains (.type Y) = bmB.contains (.type Y)) {kws : List (Str × Value)} {Q : Unit → Shared → Prop}
    (lk : hp.get? C = some (excClassObj nm ql C Nn bs bm hd sn sub ab col dd k0 k1 k2 k3 k5 nI)) (fin : Q () ⟨hp, gs, dr, tk, so⟩) : wpAny M Am (checkBuiltinCall nI ⟨[.ref C], kws⟩) Q Ex ⟨hp, gs, dr, tk, so⟩ := by
  have has : (Value.ref C :: bm).contains (.type Bs) = true := by rw [List.contains_cons, hT, F.hasB, Bool.or_true]
  have ns := F.noStar
  simp only [checkBuiltinCall, F.newKind, F.newSplit, F.newRow]
  repeat (first
    | refine wpAny_loadPart_at lk ?_
    | (refine wpAny_isSubtype_exc lk ?_; rw [has])
    | refine wpAny_staticBase_exc lk ?_
    | refine wpAny_madeBy_exc lk ?_
    | simp only [bne_self_eq_false, Bool.false_eq_true, if_false]
    | wp_step)
  exact fin
end
section
variable {pr : Program} {w : World} {Am : Around} {Ex : Value → Shared → Prop} {Rs : Result → Shared → Prop} {hp : Heap} {gs : Array GenState} {dr : Drawn} {tk : Nat} {so : OsState}
variable {nm ql : Str} {C Nn : Addr} {bs bm bmB : List Value} {hd : Bool} {sn : List Str} {sub : List Value} {ab : Bool} {col : Option Bool} {dd : Option Addr} {k0 k1 k2 k3 k5 : Option Value} {Bs nI iI : String}
theorem mkNew (F : ExcBaseFacts Bs nI iI bmB) (hT : ∀ Y : String, bm.contains (.type Y) = bmB.contains (.type Y)) {kws : List (Str × Value)}
    (lk : hp.get? C = some (excClassObj nm ql C Nn bs bm hd sn sub ab col dd k0 k1 k2 k3 k5 nI))
    (fin : Rs (.ok (.ret (.ref (hp.objs.size + 1)))) ⟨(hp.push { cls := .type "tuple", data := .seq (#[] : Array Value) }).push
      { cls := .ref C, data := .fields #[.ref hp.objs.size, .none, .none, .none, .bool false, .none] }, gs, dr, tk, so⟩) :
    codeAny (model pr w) Am (.builtin nI ⟨[.ref C], kws⟩) Rs ⟨hp, gs, dr, tk, so⟩ := by
  have ends := F.ends
  have has : (Value.ref C :: bm).contains (.type Bs) = true := by rw [List.contains_cons, hT, F.hasB, Bool.or_true]
  have noA : (Value.ref C :: bm).contains (.type "AttributeError") = false := by rw [List.contains_cons, hT, F.noAttr]; rfl
  have noN : (Value.ref C :: bm).contains (.type "NameError") = false := by rw [List.contains_cons, hT, F.noName]; rfl
  have small : ([] : List Value).length ≤ sizeLine := Nat.zero_le _
  refine codeAny_builtinAt F.entry ?_
  unfold Builtin.«BaseException.__new__»
  refine wpAt_bind ?_
  show wpAt _ _ _ (stack >>= _) _ _ _
  refine wpAt_bind (wpAt_stack fun p below => wpAt_of_wpAny ?_)
  wp_walk
  refine wpAt_of_wpAny ?_
  rw [F.owner]
  repeat (first
    | with_reducible refine wpAny_madeHere_exc F.canon lk ?_
    | with_reducible refine wpAny_loadPart_at lk ?_
    | (with_reducible refine wpAny_isSubtype_exc lk ?_; first | rw [has] | rw [noA] | rw [noN])
    | wp_step)
  show Rs _ _
  rw [Heap.size_push]
  exact fin
theorem tyCall (F : ExcBaseFacts Bs nI iI bmB) (hT : ∀ Y : String, bm.contains (.type Y) = bmB.contains (.type Y)) {kws : List (Str × Value)} {fI : Addr} {Q : Fin → Shared → Prop}
    (lk : hp.get? C = some (excClassObj nm ql C Nn bs bm hd sn sub ab col dd k0 k1 k2 k3 k5 nI))
    (li : W.Looks (model pr w) hp (typeLookup (.ref C) "__init__") (some (.ref fI))) (bd : ∀ self, W.Looks (model pr w) hp (bindSpecial (.ref fI) self) (.ref fI, [self]))
    (fin : codeAny (model pr w) Am (.call (.ref fI) ⟨[.ref (hp.objs.size + 1)], kws⟩)
      (fun r s' => match r with | .ok (.ret v) => v = .none ∧ Q (.done (.ret (.ref (hp.objs.size + 1)))) s' | .ok _ => False | .error e => Ex e s')
      ⟨(hp.push (W.kdv_tup [])).push (excO C hp.objs.size), gs, dr, tk, so⟩) :
    wpAny (model pr w) Am (Builtin.«type.__call__» ⟨[.ref C], kws⟩) Q Ex ⟨hp, gs, dr, tk, so⟩ := by
  repeat (first
    | with_reducible refine wpAny_loadPart_at lk ?_
    | with_reducible refine wpAny_madeBy_exc lk ?_
    | wp_step)
  refine codeAny_call_builtin_code (Code.quiet_builtin _ F.quiet) (ckNew F hT lk ?_)
  refine mkNew F hT lk ?_
  show wpAny _ _ _ _ _ _
  have kp : ∀ b o, hp.get? b = some o → ((hp.push (W.kdv_tup [])).push (excO C hp.objs.size)).get? b = some o := fun b o e => Heap.get?_push_of_some _ (Heap.get?_push_of_some _ e)
  have lk2 := kp _ _ lk
  have at1 : ((hp.push (W.kdv_tup [])).push (excO C hp.objs.size)).get? (hp.objs.size + 1) = some (excO C hp.objs.size) := by heap_get
  have self1 : (Value.ref C :: bm).contains (.ref C) = true := by simp
  have li2 := li.keeps kp
  have bd2 := (bd (.ref (hp.objs.size + 1))).keeps kp
  unfold isInstance
  repeat (first
    | with_reducible refine wpAny_loadPart_at at1 ?_
    | (with_reducible refine wpAny_isSubtype_exc lk2 ?_; rw [self1])
    | wp_step)
  show wpAny _ _ (typeLookup (.ref C) _) _ _ _
  refine li2.at ?_
  refine wpAny_holding (wpAny_bind (bd2.at ?_))
  refine wpAny_bind (wpAny_call (codeAny_mono fin fun r s' z => ?_))
  rcases r with e | (v | _ | _ | _) <;> first | exact z | exact z.elim | skip
  obtain ⟨rfl, z⟩ := z
  first
    | exact wpAny_pure (wpAny_pure z)
    | (wp_walk; exact z)
theorem callKw (F : ExcBaseFacts Bs nI iI bmB) (hT : ∀ Y : String, bm.contains (.type Y) = bmB.contains (.type Y)) {kws : List (Str × Value)} {fI : Addr}
    (lk : hp.get? C = some (excClassObj nm ql C Nn bs bm hd sn sub ab col dd k0 k1 k2 k3 k5 nI))
    (li : W.Looks (model pr w) hp (typeLookup (.ref C) "__init__") (some (.ref fI))) (bd : ∀ self, W.Looks (model pr w) hp (bindSpecial (.ref fI) self) (.ref fI, [self]))
    (fin : codeAny (model pr w) (Am.under (.builtin "type.__call__" ⟨[.ref C], kws⟩)) (.call (.ref fI) ⟨[.ref (hp.objs.size + 1)], kws⟩) (W.InitBack (hp.objs.size + 1) Rs)
      ⟨(hp.push (W.kdv_tup [])).push (excO C hp.objs.size), gs, dr, tk, so⟩) :
    codeAny (model pr w) Am (.call (.ref C) ⟨[], kws⟩) Rs ⟨hp, gs, dr, tk, so⟩ := by
  have f1 := tc_lookup
  have f2 := tc_bind (.ref C)
  have ty : (⟨hp, gs, dr, tk, so⟩ : Shared).TypeIs (.ref C) "type" := ⟨_, lk, rfl⟩
  refine codeAny_of_tree ?_
  show wpAny _ _ (callAny (.ref C) _) _ _ _
  repeat (any_goals (first
    | assumption
    | with_reducible refine wpAny_loadPart_at lk ?_
    | wp_step))
  refine ⟨rfl, ?_⟩
  refine codeAny_call_builtin_at (Code.quiet_builtin _ (by decide +kernel)) entry_typeCall (wpAny_check_type_call_sub lk (tyCall F hT lk li bd ?_))
  refine codeAny_mono fin fun r s' z => ?_
  rcases r with e | (v | _ | _ | _) <;> exact z
end
end FwX
set_option Elab.async false
set_option linter.all false
set_option maxRecDepth 100000
set_option maxHeartbeats 4000000
/-! FwY: own exceptions as values: made, asked for a field, asked for their class. -/
namespace FwX
open PySem PySem.Spec PySem.W PySem.Calls PyProof.Rows
/-- self by position, the others by name -/
structure KBo (K : Frag) (fd : FuncData) (ps ks : List Str) : Prop where
  to : ∀ (s : Shared) (a : Value) (ws : List Value), K.In s.heap → ([a] ++ ws).length = ps.length → BindsTo s fd ⟨[a], ks.zip ws⟩ (ps.zip ([a] ++ ws))
section
variable {pr : Program} {w : World} {Am : Around} {Ex : Value → Shared → Prop} {sh : Shared} {K : Frag} {x D : Addr} {ox : Obj} {od : Option Obj}
theorem findCls {g a : Value} {n : Str} (hd : hasDictIn K D = true) (ha : findIn K (.ref D) n = some (some a)) (hg : specialIn K a "__get__" = some (some g)) (ht : takesIn K a = some true) : findObj K D od n = some (.bind g a) := by
  obtain ⟨cd, hc, _⟩ := any_some hd
  unfold findObj
  rw [hc, Option.bind_some, ha, Option.bind_some]
  simp [hg, ht]
theorem clsOf {Q : Option Value → Shared → Prop} (g1 : findIn K (.ref D) "__getattribute__" = some (some (.builtin "BaseException.__getattribute__"))) (g2 : findIn K (.ref D) "__getattr__" = some none) (sb : subIn K (.ref D) (.type "BaseException") = some true)
    (hd : hasDictIn K D = true) (c1 : findIn K (.ref D) "__class__" = some (some (.builtin "object.__class__"))) (c2 : specialIn K (.builtin "object.__class__") "__get__" = some (some (.builtin "getset_descriptor.__get__")))
    (c3 : takesIn K (.builtin "object.__class__") = some true) (mo : mroIn K D (.type "object") = some true) (kin : K.In sh.heap) (I : InstAt sh.heap x ox D od) (fin : Q (some (.ref D)) { sh with toks := sh.toks + 1 }) :
    wpAny (model pr w) Am (getAttr? (.ref x) "__class__") Q Ex sh := by
  have hf : findObj K D od "__class__" = some (.bind (.builtin "getset_descriptor.__get__") (.builtin "object.__class__")) := findCls hd c1 c2 c3
  obtain ⟨hp, gs, dr, tk, so⟩ := sh
  have t0 := I.type (M := model pr w)
  have t1 := looks_findIn (M := model pr w) kin g1
  have t2 := looks_findIn (M := model pr w) kin g2
  have t3 := looks_find (M := model pr w) kin I hf
  have isB : Looks (model pr w) hp (isInstance (.ref x) (.type "BaseException")) true := t0.andThen (looks_subIn kin sb)
  have no0 : (false && onTheHeap (Value.builtin "BaseException.__getattribute__")) = false := rfl
  have no2 : (Value.builtin "BaseException.__getattribute__" == Value.builtin "object.__getattribute__") = false := by decide +kernel
  have no1 : (onTheHeap (Value.ref D) && Value.builtin "BaseException.__getattribute__" == Value.builtin "object.__getattribute__") = false := by rw [no2]; rfl
  unfold getAttr? getAttrBy? getAttrBy
  refine wpAny_bind (wpAny_mkText ?_)
  refine wpAny_bind (wpAny_attempt (wpAny_holding ?_))
  refine wpAny_bind (t0.at (wpAny_bind (t1.at ?_)))
  show wpAny _ _ (if (onTheHeap (Value.ref D) && Value.builtin "BaseException.__getattribute__" == Value.builtin "object.__getattribute__") = true then _ else _) _ _ _
  rw [no1, if_neg Bool.false_ne_true]
  unfold getAttrByItsOwn hookBefore
  refine wpAny_bind ?_
  rw [if_pos (show onTheHeap (Value.ref D) = true from rfl)]
  refine t2.at ?_
  refine wpAny_bind (wpAny_attempt (wpAny_holding ?_))
  unfold callGetattribute
  rw [no0, if_neg Bool.false_ne_true]
  unfold boundAndCalled
  rw [PySem.F.excAttr_ValueError.ga.bind (.ref x)]
  refine wpAny_bind (wpAny_pure ?_)
  show wpAny _ _ (call (.builtin "BaseException.__getattribute__") [.ref x, .str "__class__" tk]) _ _ _
  refine wpAny_call (codeAny_call_builtin PySem.F.excAttr_ValueError.ga.plain PySem.F.entry_bexc_ga ?_)
  refine @check_slot (model pr w) _ _ ⟨hp, gs, dr, tk + 1, so⟩ "BaseException.__getattribute__" "BaseException" "__getattribute__" (.ref x) [.str "__class__" tk] [] _ (by decide +kernel) (by decide +kernel) isB (PySem.F.args_bexc_ga (.ref x) (.str "__class__" tk)) ?_
  unfold Builtin.«object.__getattribute__»
  refine wpAny_bind (wpAny_of_eq (a := ((Value.ref x : Value), [Value.str "__class__" tk])) (by first | rfl | (simp only [slotArgs]; rfl)) ?_)
  refine wpAny_bind (wpAny_pure (wpAny_bind (t0.at (wpAny_bind (t3.at ?_)))))
  show wpAny _ _ (holding [Value.builtin "object.__class__"] (call (.builtin "getset_descriptor.__get__") [.builtin "object.__class__", .ref x, .ref D]) >>= ret) _ _ _
  refine wpAny_bind (wpAny_holding (wpAny_call (class_get (s := ⟨hp, gs, dr, tk + 1, so⟩) (ox := ox) (od := od) kin I mo ?_)))
  refine wpAny_pure ?_
  show wpAny _ _ (handedOut (.ref D)) _ _ _
  rw [handedOut_of (v := .ref D) rfl]
  first
    | exact wpAny_pure (wpAny_pure fin)
    | exact wpAny_pure fin
    | exact wpAny_pure (wpAny_bind (wpAny_pure (wpAny_pure fin)))
theorem kitEx (T : L2.ExcC K D) : KitX K (.ref x) (.ref D) (fun h => InstAt h x ox D od) where
  ty := fun _ _ _ I => I.type
  it := fun _ _ kin _ => by
    obtain ⟨cd, hc, _⟩ := any_some T.hd
    unfold clsIn at hc
    split at hc
    · rename_i z1 z2 z3 z4 lk
      intro A' Q' E' s' kp fin
      unfold isType loadHead
      exact wpAny_bind (wpAny_loadPart (kp _ _ (kin _ _ lk)) (wpAny_pure fin))
    · cases hc
  ne := fun h tp dd its n sl kin at1 => by
    obtain ⟨cd, hc, _⟩ := any_some T.hd
    refine Bool.eq_false_iff.mpr fun q => ?_
    obtain rfl : D = tp := Value.ref.inj (beq_iff_eq.mp q)
    unfold clsIn at hc
    split at hc
    · rename_i z1 z2 z3 z4 lk
      have z := (kin _ _ lk).symm.trans at1
      cases z
    · cases hc
  ca := fun kin I fin => clsOf T.hg T.hk T.hs T.hd T.ha T.hn T.ht T.hm kin I fin
end
end FwX

namespace Fw
open PySem PySem.Spec PyProof.Rows L2
/-- at a: an exception of the class at C (its traceback and its like whatever they are), its dict d -/
def exq (a C : Addr) (d : Option Addr) : HO := .ext fun h => ∃ (oe : Obj) (vs : Array Value), h.get? a = some oe ∧ Zc (.ref C) d oe ∧ oe.data = .fields vs
theorem exq_ok {P : Program} {w : World} {H : Hp} {h : Heap} {a C : Addr} {d : Option Addr} {oe : Obj} {vs : Array Value} (he : h.get? a = some oe) (hz : Zc (.ref C) d oe) (hd : oe.data = .fields vs) : ObjOk P w H h a (exq a C d) :=
  ⟨⟨oe, vs, he, hz, hd⟩, ⟨_, he⟩, fun h1 h2 z k => by
    obtain ⟨o, vs, q, r⟩ := z
    exact ⟨o, vs, k _ q, r⟩⟩
theorem exq_at {P : Program} {w : World} {H : Hp} {h : Heap} {a C : Addr} {d : Option Addr} (hok : HOk P w H h) (he : H a = some (exq a C d)) : ∃ (oe : Obj) (vs : Array Value), h.get? a = some oe ∧ Zc (.ref C) d oe ∧ oe.data = .fields vs := by
  have x : ObjOk P w H h a (.ext fun h => ∃ (oe : Obj) (vs : Array Value), h.get? a = some oe ∧ Zc (.ref C) d oe ∧ oe.data = .fields vs) := hok a _ he
  exact x.1
theorem xd_at {P : Program} {w : World} {H : Hp} {h : Heap} {dx : Addr} {fs : List (Str × V)} (hok : HOk P w H h) (he : H dx = some (.xd fs)) : ∃ mA, h.Ns1 dx mA ∧ ∀ f, RelO (fs.lookup f) (mA f) := by
  have x : ObjOk P w H h dx (.xd fs) := hok dx _ he
  exact x
/-- what the written part says of an own class of exceptions -/
structure ExK (K : PySem.W.Frag) (C : Addr) : Prop where
  ox : OexC K C
  ec : ExcC K C
section
variable {X : Cx} {pins : List (Addr × Obj)} {σ : L2.St} {H : Hp} {s : Shared} {a C dx : Addr} {f : Str}
theorem exq_inst {o : Obj} (I : Inv X pins σ H s) (e : H a = some (exq a C (some dx))) (ho : s.heap.get? dx = some o) : ∃ ox, PySem.W.InstAt s.heap a ox C (some o) := by
  obtain ⟨oe, vs, h1, hz, hd⟩ := exq_at I.hok e
  exact ⟨oe, h1, hz.1, by unfold PySem.W.notCls; rw [hd] <;> rfl, by rw [hz.2]; exact ho⟩
theorem exq_inst0 (I : Inv X pins σ H s) (e : H a = some (exq a C none)) : ∃ ox, PySem.W.InstAt s.heap a ox C none := by
  obtain ⟨oe, vs, h1, hz, hd⟩ := exq_at I.hok e
  exact ⟨oe, h1, hz.1, by unfold PySem.W.notCls; rw [hd] <;> rfl, by rw [hz.2]; exact True.intro⟩
/-- what is known of a made exception, less of it -/
theorem exq_less (I : Inv X pins σ H s) {y : V} (e : H a = some (exo a C (some dx))) (e2 : H dx = some (exd dx [(f, y)])) : Inv X pins σ (upd (upd H dx (.xd [(f, y)])) a (exq a C (some dx))) s := by
  obtain ⟨t1, h1⟩ := exo_at I.hok e
  obtain ⟨mA, hns, hr⟩ := exd_at I.hok e2
  obtain ⟨o, ho, _⟩ := lookIn_ns hns
  have hda : dx ≠ a := fun z => by
    obtain ⟨o, es, ep, f1, f2, _⟩ := hns
    rw [z, h1] at f1
    have z2 := Option.some.inj f1
    subst z2
    cases f2
  have J : Inv X pins σ (upd H dx (.xd [(f, y)])) { s with heap := s.heap, toks := s.toks } := I.write (x := dx) (e := dx) (o := .xd [(f, y)]) (by rw [e2]; exact True.intro) (.inl rfl) (fun _ _ _ z => z) ⟨o, ho⟩ ⟨mA, hns, hr⟩
  have e3 : upd H dx (.xd [(f, y)]) a = some (exo a C (some dx)) := by rw [upd_ne (Ne.symm hda)]; exact e
  exact J.write (h' := s.heap) (t' := s.toks) (x := a) (e := a) (o := exq a C (some dx)) (by rw [e3]; exact True.intro) (.inl rfl) (fun _ _ _ z => z) ⟨_, h1⟩ (exq_ok h1 ⟨rfl, rfl⟩ rfl)
theorem exq_less0 (I : Inv X pins σ H s) (e : H a = some (exo a C none)) : Inv X pins σ (upd H a (exq a C none)) s := by
  obtain ⟨t1, h1⟩ := exo_at I.hok e
  exact I.write (h' := s.heap) (t' := s.toks) (x := a) (e := a) (o := exq a C none) (by rw [e]; exact True.intro) (.inl rfl) (fun _ _ _ z => z) ⟨_, h1⟩ (exq_ok h1 ⟨rfl, rfl⟩ rfl)
theorem pe_less {e : Expr} {te : TE} (he : PE X e te) : PE X e (fun σ H Q => te σ H fun v H2 => ∃ (a C dx : Addr) (f : Str) (y : V), v = .ref a ∧ H2 a = some (exo a C (some dx)) ∧ H2 dx = some (exd dx [(f, y)]) ∧ Q (.ref a) (upd (upd H2 dx (.xd [(f, y)])) a (exq a C (some dx)))) := by
  refine ⟨fun pins s σ H Q I h => thn (he.run pins s σ H _ I h) fun u s1 hh => ?_⟩
  obtain ⟨v, H1, I1, rx, a, C, dx, f, y, rfl, e1, e2, q⟩ := hh
  exact ⟨_, _, exq_less I1 e1 e2, rx, q⟩
theorem pe_less0 {e : Expr} {te : TE} (he : PE X e te) : PE X e (fun σ H Q => te σ H fun v H2 => ∃ (a C : Addr), v = .ref a ∧ H2 a = some (exo a C none) ∧ Q (.ref a) (upd H2 a (exq a C none))) := by
  refine ⟨fun pins s σ H Q I h => thn (he.run pins s σ H _ I h) fun u s1 hh => ?_⟩
  obtain ⟨v, H1, I1, rx, a, C, rfl, e1, q⟩ := hh
  exact ⟨_, _, exq_less0 I1 e1, rx, q⟩
/-! ### made -/
def tMkE (C : Addr) (sp : Sp) (ta : TA) : TE := fun σ H Q => ta σ H fun vs H1 => vs.length ≤ 1000 ∧ ∀ a, H1 a = none → sp (.ref a :: vs) (upd H1 a (exo a C none)) (fun v H2 => v = .non ∧ Q (.ref a) H2) (fun _ _ _ => False)
variable {x : Str} {fI : Addr} {k : Nat} {fd : FuncData} {ps : List Str} {sp : Sp} {e : Expr} {es : List Expr} {ta : TA} {p pos : Pos}
theorem mk_run {us : List Value} {vs : List V} {ks : List Str} {ws : List Value} {Q : VK} {Rs : Prop} (T : OexC X.K C) (F1 : FnOk X.prog X.w X.K X.mg X.base CX0 k fI fd ps sp) (I1 : Inv X pins σ H s) (hr : Room (k + 1) X.A) (r1 : Vals vs (us ++ ws))
    (hbs : ∀ (s : Shared) (a : Value), X.K.In s.heap → BindsTo s fd ⟨a :: us, ks.zip ws⟩ (ps.zip (a :: (us ++ ws)))) (hq : ∀ a, H a = none → sp (.ref a :: vs) (upd H a (exo a C none)) (fun v H2 => v = .non ∧ Q (.ref a) H2) (fun _ _ _ => False)) :
    codeAny (model X.prog X.w) (X.A.under (.builtin "type.__call__" ⟨.ref C :: us, ks.zip ws⟩)) (.call (.ref fI) ⟨.ref (s.heap.objs.size + 1) :: us, ks.zip ws⟩)
      (PySem.W.InitBack (s.heap.objs.size + 1) fun r s' => match r with | .ok (.ret v) => EP X pins σ Q v s' | .ok _ => False | .error e => X.xe e s')
      ⟨(s.heap.push (PySem.W.kdv_tup us)).push (PySem.HandSPX.excO C s.heap.objs.size), s.gens, s.drawn, s.toks, s.os⟩ := by
  obtain ⟨hp, g, dr, tk, os⟩ := s
  have hsz : hp.objs.size ≤ hp.objs.size + 1 := Nat.le_succ _
  have hn : H (hp.objs.size + 1) = none := I1.hok.fresh hsz
  have hq1 := hq (hp.objs.size + 1) hn
  have kk : ∀ b o, hp.get? b = some o → ((hp.push (PySem.W.kdv_tup us)).push (PySem.HandSPX.excO C hp.objs.size)).get? b = some o := fun b o e => Heap.get?_push_of_some _ (Heap.get?_push_of_some _ e)
  have hget : ((hp.push (PySem.W.kdv_tup us)).push (PySem.HandSPX.excO C hp.objs.size)).get? (hp.objs.size + 1) = some (PySem.HandSPX.excO C hp.objs.size) := by heap_get
  have I2 : Inv X pins σ (upd H (hp.objs.size + 1) (exo (hp.objs.size + 1) C none)) ⟨(hp.push (PySem.W.kdv_tup us)).push (PySem.HandSPX.excO C hp.objs.size), g, dr, tk, os⟩ :=
    I1.laid (t' := tk) (a := hp.objs.size + 1) (o := exo (hp.objs.size + 1) C none) (h' := (hp.push (PySem.W.kdv_tup us)).push (PySem.HandSPX.excO C hp.objs.size)) kk hsz (exo_ok hget)
  refine codeAny_mono (F1.run _ X.stack _ _ ⟨Value.ref (hp.objs.size + 1) :: us, ks.zip ws⟩ (Value.ref (hp.objs.size + 1) :: (us ++ ws)) _ _ (fun _ _ _ => False) (hr.make C us _) (I2.env0.make C us _) (hbs _ _ I2.kIn) (.cons (show RelV (V.ref (hp.objs.size + 1)) (Value.ref (hp.objs.size + 1)) from rfl) r1) hq1) fun r s' hq' => ?_
  cases r with
  | error er => exact hq'.elim
  | ok fl =>
    cases fl with
    | ret u =>
      obtain ⟨v, H2, os2, bare2, un2, hok2, rv, ev, q2⟩ := hq'
      subst ev
      exact ⟨rv, I2.after ⟨.ref _, H2, os2, bare2, un2, hok2, rfl, q2⟩⟩
    | next => exact False.elim hq'
    | brk => exact False.elim hq'
    | cont => exact False.elim hq'
theorem pe_mkE (T : OexC X.K C) (iC : PySem.W.findIn X.K (.ref C) "__init__" = some (some (.ref fI))) (tI : PySem.W.typeIn X.K (.ref fI) = some (.type "function"))
    (F1 : FnOk X.prog X.w X.K X.mg X.base CX0 k fI fd ps sp) (hr : Room (k + 1) X.A) (hb : Binds X.K fd ps []) (hg : Gl X x) (hm : X.mg x = some (.ref C)) (ha : PA X (e :: es) ta)
    (hdb : (x == ("__debug__" : Str)) = false := by decide) (he : starEach (e :: es) X.env = (false, eval e X.env) :: starEach es X.env := by rfl) (hpl : (backTo pos (starEach es X.env)).any (·.1) = false := by rfl) :
    PE X (.Call (.Name x p) (e :: es) [] pos) (tMkE C sp ta) := by
  refine ⟨fun pins s σ H Q I h => ?_⟩
  obtain ⟨nm, q, N, bs, bm, sn, sub, ab, col, dd, k0, k1, k2, k3, k5, hC, hbm⟩ := T.cls
  refine wpAny_Call_Name_kw (ld_glob I hg hm ?_ hdb)
  refine PySem.W.callWith_K (h₀ := X.base) I.ok.mod.kin T.kC (thn (ha.run pos pins s σ H _ I h) fun us s1 ⟨vs, H1, I1, r1, hz, q1⟩ => ⟨I1.kIn, ?_⟩) he hpl
  show wpAny _ _ (call (.ref C) us) _ _ _
  have hus : us.length ≤ sizeLine := by
    rw [← Paired.length r1, sizeLine_eq]
    omega
  have hl : ∀ a : Value, (a :: (us ++ [])).length = ps.length := fun a => by
    have hn : H1 (s1.heap.objs.size + 1) = none := I1.hok.fresh (Nat.le_succ _)
    have := F1.len _ _ _ _ (q1 _ hn)
    rw [← this, List.length_cons, List.length_cons, List.append_nil, r1.length]
  have run := mk_run (us := us) (vs := vs) (ks := []) (ws := []) (Q := Q) (Rs := True) T F1 I1 hr (by rw [List.append_nil]; exact r1) (fun s a kin => by
    have z := hb s (a :: us) kin (by have := hl a; simpa using this)
    simpa using z) q1
  obtain ⟨hp, g, dr, tk, os⟩ := s1
  refine wpAny_call (PySem.HandSPX.call_own F.excBase_ValueError (fun Y => PySem.HandSPX.refsVE_contains Y bm hbm) (I1.kIn _ _ hC) (PySem.W.looks_findIn I1.kIn iC) (fun self => PySem.W.bind_fn I1.kIn self tI) hus run)
theorem pe_mkK {tk : TA} {kws : List Keyword} {ks : List Str} (T : OexC X.K C) (iC : PySem.W.findIn X.K (.ref C) "__init__" = some (some (.ref fI))) (tI : PySem.W.typeIn X.K (.ref fI) = some (.type "function"))
    (F1 : FnOk X.prog X.w X.K X.mg X.base CX0 k fI fd ps sp) (hr : Room (k + 1) X.A) (hb : FwX.KBo X.K fd ps ks) (hg : Gl X x) (hm : X.mg x = some (.ref C)) (hkw : PK X kws tk)
    (hall : (backToKw pos (keywordEach kws X.env)).all (·.1.isSome) = true := by rfl) (hks : (backToKw pos (keywordEach kws X.env)).filterMap (·.1) = ks := by rfl) (hdb : (x == ("__debug__" : Str)) = false := by decide)
    (hpl : ((backTo pos (starEach [] X.env)).any (·.1) || (backToKw pos (keywordEach kws X.env)).any (·.1.isNone)) = false := by rfl) :
    PE X (.Call (.Name x p) [] kws pos) (tMkE C sp tk) := by
  refine ⟨fun pins s σ H Q I h => ?_⟩
  obtain ⟨nm, q, N, bs, bm, sn, sub, ab, col, dd, k0, k1, k2, k3, k5, hC, hbm⟩ := T.cls
  refine wpAny_Call_Name_kw (ld_glob I hg hm ?_ hdb)
  refine PySem.W.callWith_KW0 (h₀ := X.base) I.ok.mod.kin T.kC hall ?_ hpl
  refine thn (hkw.run pos pins s σ H _ I h) fun ws s1 ⟨zs, H1, I1, rz, hz, q1⟩ => ⟨I1.kIn, ?_⟩
  rw [hks]
  show wpAny _ _ (call (.ref C) [] (ks.zip ws)) _ _ _
  have hl : ∀ a : Value, ([a] ++ ws).length = ps.length := fun a => by
    have hn : H1 (s1.heap.objs.size + 1) = none := I1.hok.fresh (Nat.le_succ _)
    have := F1.len _ _ _ _ (q1 _ hn)
    rw [← this, List.length_append, List.length_cons, List.length_cons, rz.length]
    simp [Nat.add_comm]
  have run := mk_run (us := []) (vs := zs) (ks := ks) (ws := ws) (Q := Q) (Rs := True) T F1 I1 hr (by rw [List.nil_append]; exact rz) (fun s a kin => by
    have z := hb.to s a ws kin (hl a)
    simpa using z) q1
  obtain ⟨hp, g, dr, tk, os⟩ := s1
  refine wpAny_call (FwX.callKw F.excBase_ValueError (fun Y => PySem.HandSPX.refsVE_contains Y bm hbm) (I1.kIn _ _ hC) (PySem.W.looks_findIn I1.kIn iC) (fun self => PySem.W.bind_fn I1.kIn self tI) run)
/-- a class without an own __init__ -/
theorem pe_mk0 {B newId initId : String} {bmB : List Value} (F : ExcBaseFacts B newId initId bmB) (q : PySem.W.excIn X.K C bmB newId = true) (kC : PySem.W.keepIn X.K (.ref C) = true) (hg : Gl X x) (hm : X.mg x = some (.ref C))
    (hdb : (x == ("__debug__" : Str)) = false := by decide) : PE X (.Call (.Name x p) [] [] pos) (fun _ H Q => ∀ a, H a = none → Q (.ref a) (upd H a (exo a C none))) := by
  refine ⟨fun pins s σ H Q I h => ?_⟩
  refine wpAny_Call_Name_kw (ld_glob I hg hm ?_ hdb)
  refine PySem.W.callWith_KW0 (h₀ := X.base) I.ok.mod.kin kC (by rfl) ?_ (by rfl)
  refine wpAny_evalAll_nil ⟨I.kIn, ?_⟩
  show wpAny _ _ (call (.ref C) []) _ _ _
  obtain ⟨bm, N, nm, qn, bs, hdct, sn, sub, ab, col, dd, k0, k1, k2, k3, k5, mN, hC, hN, hni, T⟩ := exc_obj I.kIn q
  obtain ⟨hp, g, dr, tk, os⟩ := s
  refine wpAny_call_exc_subT F T hC hN hni (fun h' a hm => ?_) (by exact Nat.zero_le _)
  have hn : H a = none := I.hok.gone hm.new
  obtain ⟨t, ht, _, _⟩ := hm.there
  exact ⟨.ref a, upd H a (exo a C none), I.laidN hm.keeps hm.new hn (exo_ok ht), rfl, h a hn⟩
/-! ### asked -/
structure FldK (K : PySem.W.Frag) (C : Addr) (f : Str) : Prop where
  ga : PySem.W.findIn K (.ref C) "__getattribute__" = some (some (.builtin "BaseException.__getattribute__"))
  gg : PySem.W.findIn K (.ref C) "__getattr__" = some none
  noN : PySem.W.findIn K (.ref C) f = some none
  exC : PySem.W.subIn K (.ref C) (.type "BaseException") = some true
  hdC : PySem.W.hasDictIn K C = true
def tOxf (K : PySem.W.Frag) (f : Str) (te : TE) : TE := fun σ H Q => te σ H fun x H1 => ∃ (a C dx : Addr) (fs : List (Str × V)) (v : V), x = .ref a ∧ FldK K C f ∧ H1 a = some (exq a C (some dx)) ∧ H1 dx = some (.xd fs) ∧ fs.lookup f = some v ∧ Q v H1
theorem pe_oxf {te : TE} (he : PE X e te) (hb : attributeBase e f X.env (eval e X.env) = eval e X.env := by rfl) : PE X (.Attribute e f pos) (tOxf X.K f te) := by
  refine ⟨fun pins s σ H Q I h => ?_⟩
  refine attr_of hb (thn (he.run pins s σ H _ I h) fun u s1 hh => ?_)
  obtain ⟨x, H1, I1, rx, a, C, dx, fs, v, rfl, T, ea, ed, el, q⟩ := hh
  obtain rfl : u = Value.ref a := rx
  obtain ⟨mA, hns, hr⟩ := xd_at I1.hok ed
  obtain ⟨o, ho, hl⟩ := lookIn_ns hns
  obtain ⟨ox, J⟩ := exq_inst I1 ea ho
  obtain ⟨u, hu, ru⟩ := RelO.some_of (v := v) (o := mA f) (by rw [← el]; exact hr f)
  exact HandSPX.exc_get I1.kIn J T.ga T.gg T.exC (PySem.W.findObj_own T.hdC T.noN rfl (by rw [hl f, hu])) (handed_of ru) ⟨v, H1, I1.tok _, ru, q⟩
end
end Fw
set_option Elab.async false
set_option linter.all false
set_option maxRecDepth 100000
/-! Fw: Python defs as total Lean functions over data (PyData), refined by the hand layer once for each construct. -/
namespace Fw
open PySem PySem.Spec PyProof.Rows L2

abbrev St := L2.St
abbrev D := PyData
abbrev Env := List (Option D)

/-! ### data in the heap -/
mutual
inductive Va (H : Hp) (Av : Addr → Prop) : V → D → Prop
  | non : Va H Av .non .none
  | bl (b : Bool) : Va H Av (.bl b) (.bool b)
  | int (i : Int) : Va H Av (.int i) (.int i)
  | str (x : Str) : Va H Av (.str x) (.str x)
  | lst {a : Addr} {xs : List V} {ds : List D} : Rd H a (.lst xs) → ¬ Av a → Vas H Av xs ds → Va H Av (.ref a) (.list ds)
  | tup {a : Addr} {xs : List V} {ds : List D} : Rd H a (.tup xs) → ¬ Av a → Vas H Av xs ds → Va H Av (.ref a) (.tuple ds)
  | dic {a : Addr} : Rd H a (.dK []) → ¬ Av a → Va H Av (.ref a) (.dict [])
  /-- an exception of the class at C without a field; with one field -/
  | exc {a C : Addr} : H a = some (exq a C none) → ¬ Av a → Va H Av (.ref a) (.dict [(.int C, .none)])
  | exf {a C dx : Addr} {f : Str} {v : V} {d : D} : H a = some (exq a C (some dx)) → H dx = some (.xd [(f, v)]) → ¬ Av a → ¬ Av dx → Va H Av v d → Va H Av (.ref a) (.dict [(.str f, d), (.int C, .none)])
inductive Vas (H : Hp) (Av : Addr → Prop) : List V → List D → Prop
  | nil : Vas H Av [] []
  | cons {v : V} {vs : List V} {d : D} {ds : List D} : Va H Av v d → Vas H Av vs ds → Vas H Av (v :: vs) (d :: ds)
end

section
variable {H H' : Hp} {Av Av' : Addr → Prop}
theorem Rd.to {a : Addr} {u : HO} (k : ∀ o, H a = some o → H' a = some o) (h : Rd H a u) : Rd H' a u := by
  rcases h with h | ⟨o, h⟩
  · exact .inl (k _ h)
  · exact .inr ⟨o, k _ h⟩
theorem Rd.is {a : Addr} {u : HO} (h : Rd H a u) : ∃ o, H a = some o := by
  rcases h with h | ⟨o, h⟩
  · exact ⟨_, h⟩
  · exact ⟨_, h⟩
mutual
theorem Va.to' (k : ∀ a o, H a = some o → ¬ Av a → H' a = some o) (s : ∀ a o, H a = some o → ¬ Av a → ¬ Av' a) : ∀ {v : V} {d : D}, Va H Av v d → Va H' Av' v d
  | _, _, .non => .non
  | _, _, .bl b => .bl b
  | _, _, .int i => .int i
  | _, _, .str x => .str x
  | _, _, .lst r n r2 => .lst (Rd.to (fun o e => k _ o e n) r) (let ⟨o, e⟩ := Rd.is r; s _ o e n) (Vas.to' k s r2)
  | _, _, .tup r n r2 => .tup (Rd.to (fun o e => k _ o e n) r) (let ⟨o, e⟩ := Rd.is r; s _ o e n) (Vas.to' k s r2)
  | _, _, .dic r n => .dic (Rd.to (fun o e => k _ o e n) r) (let ⟨o, e⟩ := Rd.is r; s _ o e n)
  | _, _, .exc e n => .exc (k _ _ e n) (s _ _ e n)
  | _, _, .exf e e2 n n2 r => .exf (k _ _ e n) (k _ _ e2 n2) (s _ _ e n) (s _ _ e2 n2) (Va.to' k s r)
theorem Vas.to' (k : ∀ a o, H a = some o → ¬ Av a → H' a = some o) (s : ∀ a o, H a = some o → ¬ Av a → ¬ Av' a) : ∀ {vs : List V} {ds : List D}, Vas H Av vs ds → Vas H' Av' vs ds
  | _, _, .nil => .nil
  | _, _, .cons h1 h2 => .cons (Va.to' k s h1) (Vas.to' k s h2)
end
theorem Va.to (k : ∀ a o, H a = some o → ¬ Av a → H' a = some o) (s : ∀ a o, H a = some o → ¬ Av a → ¬ Av' a) (d : D) (v : V) (h : Va H Av v d) : Va H' Av' v d := Va.to' k s h
theorem Vas.to (k : ∀ a o, H a = some o → ¬ Av a → H' a = some o) (s : ∀ a o, H a = some o → ¬ Av a → ¬ Av' a) (ds : List D) (vs : List V) (h : Vas H Av vs ds) : Vas H' Av' vs ds := Vas.to' k s h
theorem Vas.len : ∀ {vs : List V} {ds : List D}, Vas H Av vs ds → vs.length = ds.length
  | _, _, .nil => rfl
  | _, _, .cons _ t => by rw [List.length_cons, List.length_cons, Vas.len t]
theorem Vas.get : ∀ {vs : List V} {ds : List D} {i : Nat} {d : D}, Vas H Av vs ds → ds[i]? = some d → ∃ v, vs[i]? = some v ∧ Va H Av v d
  | _, _, _, _, .nil, e => by simp at e
  | _, _, 0, _, .cons r _, e => by simp at e; subst e; exact ⟨_, rfl, r⟩
  | _, _, i + 1, _, .cons _ t, e => by
    obtain ⟨v, h1, h2⟩ := Vas.get (i := i) t (by simpa using e)
    exact ⟨v, by simpa using h1, h2⟩
theorem Vas.append : ∀ {vs ws : List V} {ds es : List D}, Vas H Av vs ds → Vas H Av ws es → Vas H Av (vs ++ ws) (ds ++ es)
  | _, _, _, _, .nil, s => s
  | _, _, _, _, .cons r t, s => .cons r (Vas.append t s)
theorem Vas.take : ∀ {vs : List V} {ds : List D} (n : Nat), Vas H Av vs ds → Vas H Av (vs.take n) (ds.take n)
  | _, _, 0, _ => by simp only [List.take_zero]; exact .nil
  | _, _, n + 1, .nil => .nil
  | _, _, n + 1, .cons r t => by simp only [List.take_succ_cons]; exact .cons r (Vas.take n t)
theorem Vas.drop : ∀ {vs : List V} {ds : List D} (n : Nat), Vas H Av vs ds → Vas H Av (vs.drop n) (ds.drop n)
  | _, _, 0, h => h
  | _, _, n + 1, .nil => .nil
  | _, _, n + 1, .cons r t => by simp only [List.drop_succ_cons]; exact Vas.drop n t
theorem Vas.set {v : V} {d : D} (r : Va H Av v d) : ∀ {vs : List V} {ds : List D} (n : Nat), Vas H Av vs ds → Vas H Av (vs.set n v) (ds.set n d)
  | _, _, _, .nil => .nil
  | _, _, 0, .cons _ t => .cons r t
  | _, _, n + 1, .cons q t => .cons q (Vas.set r n t)
theorem Vas.rep {v : V} {d : D} (r : Va H Av v d) : ∀ n : Nat, Vas H Av (List.replicate n v) (List.replicate n d)
  | 0 => .nil
  | n + 1 => .cons r (Vas.rep r n)
/-- the address of a reference is tracked -/
theorem Va.trk {a : Addr} {d : D} (h : Va H Av (.ref a) d) : (∃ o, H a = some o) ∧ ¬ Av a := by
  cases h with
  | lst r n _ => exact ⟨Rd.is r, n⟩
  | tup r n _ => exact ⟨Rd.is r, n⟩
  | dic r n => exact ⟨Rd.is r, n⟩
  | exc e n => exact ⟨⟨_, e⟩, n⟩
  | exf e _ n _ _ => exact ⟨⟨_, e⟩, n⟩
end

/-! ### the world of a def -/
structure Wd where
  H0 : Hp
  pot : Option (Nat × Addr)
  av : Addr → Prop
  os : List Nat
  /-- new objects that are being made -/
  xa : List Addr := []

def Avd (W : Wd) (own : List (Nat × Addr)) : Addr → Prop := fun a => (W.av a ∨ a ∈ W.xa) ∨ a ∈ own.map (·.2)
/-- what an owned object holds: a list; a dict with tuple keys -/
def Ow (H : Hp) (Av : Addr → Prop) (a : Addr) (d : D) : Prop := ∃ xs ds, H a = some (.lst xs) ∧ d = .list ds ∧ Vas H Av xs ds
/-- all that was tracked stands, but the pot -/
def Ex (W : Wd) (H H' : Hp) : Prop := ∀ b o, H b = some o → (∀ i, W.pot ≠ some (i, b)) → H' b = some o
theorem Ex.refl {W : Wd} (H : Hp) : Ex W H H := fun _ _ h _ => h
theorem Ex.trans {W : Wd} {H H1 H2 : Hp} (a : Ex W H H1) (b : Ex W H1 H2) : Ex W H H2 := fun c o h n => b c o (a c o h n) n

structure Rel (W : Wd) (Av : Addr → Prop) (own : List (Nat × Addr)) (σ : St) (H : Hp) (env : Env) : Prop where
  len : env.length = σ.length
  ns : (own.map (·.1)).Nodup
  na : (own.map (·.2)).Nodup
  ow : ∀ p ∈ own, σ[p.1]? = some (some (.ref p.2)) ∧ ∃ d, env[p.1]? = some (some d) ∧ Ow H Av p.2 d
  va : ∀ i d, env[i]? = some (some d) → i ∉ own.map (·.1) → ∃ v, σ[i]? = some (some v) ∧ Va H Av v d
  keep : Ex W W.H0 H
  fr : ∀ p ∈ own, W.pot = some p ∨ W.H0 p.2 = none
  pin : ∀ p, W.pot = some p → p ∈ own
  avt : ∀ a, W.av a → (∃ o, W.H0 a = some o) ∧ ∀ i, W.pot ≠ some (i, a)
  sub : ∀ a, Avd W own a → Av a
  osub : ∀ p ∈ own, p.1 ∈ W.os
  xt : ∀ a ∈ W.xa, (∃ o, H a = some o) ∧ (∀ i, W.pot ≠ some (i, a)) ∧ a ∉ own.map (·.2) ∧ W.H0 a = none
  oall : ∀ i ∈ W.os, ∀ d, env[i]? = some (some d) → i ∈ own.map (·.1)

abbrev Good (W : Wd) (own : List (Nat × Addr)) (σ : St) (H : Hp) (env : Env) : Prop := Rel W (Avd W own) own σ H env

section
variable {W : Wd} {Av Av' : Addr → Prop} {own : List (Nat × Addr)} {σ : St} {H H' : Hp} {env : Env}
theorem Avd.trk (R : Rel W Av own σ H env) {a : Addr} (h : Avd W own a) : ∃ o, H a = some o := by
  rcases h with (h | h) | h
  · obtain ⟨⟨o, e⟩, n⟩ := R.avt a h
    exact ⟨o, R.keep a o e n⟩
  · exact (R.xt a h).1
  · obtain ⟨p, hp, rfl⟩ := List.mem_map.mp h
    obtain ⟨_, d, _, xs, ds, e, _⟩ := R.ow p hp
    exact ⟨_, e⟩
/-- a value stays under Ex -/
theorem Va.ex {v : V} {d : D} (hp : ∀ i a, W.pot = some (i, a) → Av a) (x : Ex W H H') (h : Va H Av v d) : Va H' Av v d :=
  Va.to (fun a o e n => x a o e fun i q => n (hp i a q)) (fun _ _ _ n => n) d v h
theorem Vas.ex {v : List V} {d : List D} (hp : ∀ i a, W.pot = some (i, a) → Av a) (x : Ex W H H') (h : Vas H Av v d) : Vas H' Av v d :=
  Vas.to (fun a o e n => x a o e fun i q => n (hp i a q)) (fun _ _ _ n => n) d v h
theorem Rel.potAv (R : Rel W Av own σ H env) : ∀ i a, W.pot = some (i, a) → Avd W own a := fun i a e =>
  .inr (List.mem_map.mpr ⟨(i, a), R.pin _ e, rfl⟩)
theorem Rel.potAv' (R : Rel W Av own σ H env) : ∀ i a, W.pot = some (i, a) → Av a := fun i a e => R.sub a (R.potAv i a e)
/-- something new is laid (or nothing): all that was tracked stands -/
theorem Rel.same (R : Rel W Av own σ H env) (k : ∀ b o, H b = some o → H' b = some o) : Rel W Av own σ H' env where
  len := R.len
  ns := R.ns
  na := R.na
  ow := fun p hp => by
    obtain ⟨e, d, e2, xs, ds, e3, e4, e5⟩ := R.ow p hp
    exact ⟨e, d, e2, xs, ds, k _ _ e3, e4, Vas.to (fun a o e _ => k a o e) (fun _ _ _ n => n) _ _ e5⟩
  va := fun i d e n => by
    obtain ⟨v, e1, e2⟩ := R.va i d e n
    exact ⟨v, e1, Va.to (fun a o e _ => k a o e) (fun _ _ _ n => n) _ _ e2⟩
  keep := fun b o e n => k b o (R.keep b o e n)
  fr := R.fr
  pin := R.pin
  avt := R.avt
  sub := R.sub
  osub := R.osub
  oall := R.oall
  xt := fun a ha => by
    obtain ⟨⟨o, e⟩, r⟩ := R.xt a ha
    exact ⟨⟨o, k _ _ e⟩, r⟩
theorem Ex.same (k : ∀ b o, H b = some o → H' b = some o) : Ex W H H' := fun b o e _ => k b o e
/-- values avoid what is new -/
theorem Rel.more {p : Addr} (R : Rel W Av own σ H env) (hp : H p = none) : Rel W (fun a => Av a ∨ a = p) own σ H env where
  len := R.len
  ns := R.ns
  na := R.na
  ow := fun q hq => by
    obtain ⟨e, d, e2, xs, ds, e3, e4, e5⟩ := R.ow q hq
    refine ⟨e, d, e2, xs, ds, e3, e4, Vas.to (fun a o e _ => e) (fun a o e n z => ?_) _ _ e5⟩
    rcases z with z | z
    · exact n z
    · rw [z, hp] at e; cases e
  va := fun i d e n => by
    obtain ⟨v, e1, e2⟩ := R.va i d e n
    refine ⟨v, e1, Va.to (fun a o e _ => e) (fun a o e n z => ?_) _ _ e2⟩
    rcases z with z | z
    · exact n z
    · rw [z, hp] at e; cases e
  keep := R.keep
  fr := R.fr
  pin := R.pin
  avt := R.avt
  sub := fun a h => .inl (R.sub a h)
  osub := R.osub
  oall := R.oall
  xt := R.xt
theorem Rel.less {Av' : Addr → Prop} (R : Rel W Av own σ H env) (h1 : ∀ a, Avd W own a → Av' a) (h2 : ∀ a, Av' a → Av a) : Rel W Av' own σ H env where
  len := R.len
  ns := R.ns
  na := R.na
  ow := fun q hq => by
    obtain ⟨e, d, e2, xs, ds, e3, e4, e5⟩ := R.ow q hq
    exact ⟨e, d, e2, xs, ds, e3, e4, Vas.to (fun a o e _ => e) (fun a o e n z => n (h2 a z)) _ _ e5⟩
  va := fun i d e n => by
    obtain ⟨v, e1, e2⟩ := R.va i d e n
    exact ⟨v, e1, Va.to (fun a o e _ => e) (fun a o e n z => n (h2 a z)) _ _ e2⟩
  keep := R.keep
  fr := R.fr
  pin := R.pin
  avt := R.avt
  sub := h1
  osub := R.osub
  oall := R.oall
  xt := R.xt
end

/-! ### the static side of a context -/
structure Ctx where
  P : Program
  w : World
  K : PySem.W.Frag
  mg : Str → Option Value
  base : Heap
  N : List Str
  sc : Scope
  k : Nat
  fns : Str → Bool
  /-- the slot of the parameter that is changed for the caller; the slots that hold owned objects -/
  pw : Option Nat
  os : List Nat
def Fit (c : Ctx) (W : Wd) : Prop := W.pot.map (·.1) = c.pw ∧ W.os = c.os ∧ True
structure InC (c : Ctx) (X : Cx) : Prop where
  p : X.prog = c.P
  w : X.w = c.w
  k : X.K = c.K
  mg : X.mg = c.mg
  base : X.base = c.base
  n : X.N = c.N
  sc : X.env.scope = c.sc
  calm : X.calm = true
  room : Room c.k X.A
  xe : X.xe = fun _ _ => False
  fn : ∀ x, c.fns x = true → X.fn x = true
  kind : c.sc.kind = .function
  nd : c.N.Nodup
  gd : X.A.guards = some []

abbrev EM := Env → Option (D × Env)
abbrev AM := Env → Option (List D × Env)
abbrev BM := Env → Option (Bool × Env)
inductive Fl | nx | rt (d : D) | bk | ct
abbrev SM := Env → Option (Fl × Env)

/-- an expression refines m: its value is data that nobody owns -/
def RE (c : Ctx) (e : Expr) (m : EM) : Prop :=
  ∃ t : TE, (∀ X, InC c X → PE X e t) ∧ ∀ (W : Wd) (own : List (Nat × Addr)) (σ : St) (H : Hp) (env : Env) (d : D) (env' : Env) (Q : VK), Fit c W → Good W own σ H env → m env = some (d, env') →
    (∀ v H', Ex W H H' → Good W own σ H' env' → Va H' (Avd W own) v d → Q v H') → t σ H Q
/-- weak: it may be an owned object (not the pot) -/
def Wk (W : Wd) (own : List (Nat × Addr)) (H : Hp) (v : V) (d : D) : Prop :=
  Va H (Avd W own) v d ∨ ∃ p ∈ own, W.pot ≠ some p ∧ v = .ref p.2 ∧ Ow H (Avd W own) p.2 d
def RW (c : Ctx) (e : Expr) (m : EM) : Prop :=
  ∃ t : TE, (∀ X, InC c X → PE X e t) ∧ ∀ (W : Wd) (own : List (Nat × Addr)) (σ : St) (H : Hp) (env : Env) (d : D) (env' : Env) (Q : VK), Fit c W → Good W own σ H env → m env = some (d, env') →
    (∀ v H', Ex W H H' → Good W own σ H' env' → Wk W own H' v d → Q v H') → t σ H Q
/-- new: the value is a new object that nobody knows -/
def RN (c : Ctx) (e : Expr) (m : EM) : Prop :=
  ∃ t : TE, (∀ X, InC c X → PE X e t) ∧ ∀ (W : Wd) (own : List (Nat × Addr)) (σ : St) (H : Hp) (env : Env) (d : D) (env' : Env) (Q : VK), Fit c W → Good W own σ H env → m env = some (d, env') →
    (∀ p H', Ex W H H' → H p = none → ¬ Avd W own p → Rel W (fun a => Avd W own a ∨ a = p) own σ H' env' → Ow H' (fun a => Avd W own a ∨ a = p) p d → Q (.ref p) H') → t σ H Q
/-- a test -/
def RT (c : Ctx) (e : Expr) (m : BM) : Prop :=
  ∃ t : TT, (∀ X, InC c X → PT X e t) ∧ ∀ (W : Wd) (own : List (Nat × Addr)) (σ : St) (H : Hp) (env : Env) (b : Bool) (env' : Env) (Q : Bool → Hp → Prop), Fit c W → Good W own σ H env → m env = some (b, env') →
    (∀ H', Ex W H H' → Good W own σ H' env' → Q b H') → t σ H Q
/-- an argument list, each weak -/
def Wks (W : Wd) (own : List (Nat × Addr)) (H : Hp) : List V → List D → Prop
  | [], [] => True
  | v :: vs, d :: ds => Wk W own H v d ∧ Wks W own H vs ds
  | _, _ => False
def RA (c : Ctx) (es : List Expr) (m : AM) : Prop :=
  ∃ t : TA, (∀ X, InC c X → PA X es t) ∧ ∀ (W : Wd) (own : List (Nat × Addr)) (σ : St) (H : Hp) (env : Env) (ds : List D) (env' : Env) (Q : List V → Hp → Prop), Fit c W → Good W own σ H env → m env = some (ds, env') →
    (∀ vs H', Ex W H H' → Good W own σ H' env' → Wks W own H' vs ds → Q vs H') → t σ H Q
/-- .. each a value -/
def RAs (c : Ctx) (es : List Expr) (m : AM) : Prop :=
  ∃ t : TA, (∀ X, InC c X → PA X es t) ∧ ∀ (W : Wd) (own : List (Nat × Addr)) (σ : St) (H : Hp) (env : Env) (ds : List D) (env' : Env) (Q : List V → Hp → Prop), Fit c W → Good W own σ H env → m env = some (ds, env') →
    (∀ vs H', Ex W H H' → Good W own σ H' env' → Vas H' (Avd W own) vs ds → Q vs H') → t σ H Q

section
variable {W : Wd} {own : List (Nat × Addr)} {σ : St} {H H' : Hp} {env : Env}
theorem Wk.ex {v : V} {d : D} (G : Good W own σ H env) (x : Ex W H H') (h : Wk W own H v d) : Wk W own H' v d := by
  rcases h with h | ⟨p, hp, hn, e, xs, ds, e1, e2, e3⟩
  · exact .inl (h.ex G.potAv x)
  · refine .inr ⟨p, hp, hn, e, xs, ds, x _ _ e1 fun i q => ?_, e2, e3.ex G.potAv x⟩
    have hq := G.pin _ q
    have : (i, p.2) = p := by
      have h1 : ∀ (l : List (Nat × Addr)), (l.map (·.2)).Nodup → ∀ p q, p ∈ l → q ∈ l → p.2 = q.2 → p = q := by
        intro l
        induction l with
        | nil => intro _ p q h; cases h
        | cons a l ih =>
          intro nd p q h1 h2 e
          rw [List.map_cons, List.nodup_cons] at nd
          rcases List.mem_cons.mp h1 with h1 | h1
          · rcases List.mem_cons.mp h2 with h2 | h2
            · rw [h1, h2]
            · exact absurd (List.mem_map.mpr ⟨q, h2, by rw [← e, h1]⟩) nd.1
          · rcases List.mem_cons.mp h2 with h2 | h2
            · exact absurd (List.mem_map.mpr ⟨p, h1, by rw [e, h2]⟩) nd.1
            · exact ih nd.2 p q h1 h2 e
      exact h1 own G.na _ _ hq hp rfl
    rw [this] at q
    exact hn q
theorem Wks.ex {vs : List V} {ds : List D} (G : Good W own σ H env) (x : Ex W H H') : ∀ {vs : List V} {ds : List D}, Wks W own H vs ds → Wks W own H' vs ds
  | [], [], _ => trivial
  | _ :: _, _ :: _, h => ⟨h.1.ex G x, Wks.ex (vs := vs) (ds := ds) G x h.2⟩
  | [], _ :: _, h => h.elim
  | _ :: _, [], h => h.elim
end

section
variable {c : Ctx} {e : Expr} {es : List Expr} {m : EM}
theorem RE.wk (h : RE c e m) : RW c e m := by
  obtain ⟨t, h1, h2⟩ := h
  exact ⟨t, h1, fun W own σ H env d env' Q e1 G e2 q => h2 W own σ H env d env' Q e1 G e2 fun v H' x G' r => q v H' x G' (.inl r)⟩
theorem RN.re (h : RN c e m) : RE c e m := by
  obtain ⟨t, h1, h2⟩ := h
  refine ⟨t, h1, fun W own σ H env d env' Q e1 G e2 q => h2 W own σ H env d env' Q e1 G e2 fun p H' x hp hn R ow => ?_⟩
  obtain ⟨xs, ds, f1, f2, f3⟩ := ow
  subst f2
  exact q _ _ x (R.less (fun _ h => h) fun _ h => .inl h) (.lst (.inl f1) hn (Vas.to (fun a o e _ => e) (fun a o e n z => n (.inl z)) _ _ f3))
end
end Fw
set_option Elab.async false
set_option linter.all false
set_option maxRecDepth 100000
/-! Fw2: expressions. -/
namespace Fw
open PySem PySem.Spec PyProof.Rows L2

/-! ### the words -/
def eC (d : D) : EM := fun e => some (d, e)
def eV (i : Nat) : EM := fun e => match e[i]? with
  | some (some d) => some (d, e)
  | _ => none
def eB (f : D → D → Option D) (a b : EM) : EM := fun e => match a e with
  | some (x, e1) => match b e1 with
    | some (y, e2) => match f x y with
      | some z => some (z, e2)
      | none => none
    | none => none
  | none => none
def eU (f : D → Option D) (a : EM) : EM := fun e => match a e with
  | some (x, e1) => match f x with
    | some z => some (z, e1)
    | none => none
  | none => none
def aN : AM := fun e => some ([], e)
def aC (a : EM) (r : AM) : AM := fun e => match a e with
  | some (x, e1) => match r e1 with
    | some (xs, e2) => some (x :: xs, e2)
    | none => none
  | none => none
def eF (f : List D → Option D) (a : AM) : EM := fun e => match a e with
  | some (xs, e1) => match f xs with
    | some z => some (z, e1)
    | none => none
  | none => none
def bV (a : EM) : BM := fun e => match a e with
  | some (.bool b, e1) => some (b, e1)
  | _ => none
def bNot (a : BM) : BM := fun e => match a e with
  | some (b, e1) => some (!b, e1)
  | none => none
def bAnd (a b : BM) : BM := fun e => match a e with
  | some (true, e1) => b e1
  | r => r
def bOr (a b : BM) : BM := fun e => match a e with
  | some (false, e1) => b e1
  | r => r
def eOfB (a : BM) : EM := fun e => match a e with
  | some (b, e1) => some (.bool b, e1)
  | none => none
def eI (t : BM) (a b : EM) : EM := fun e => match t e with
  | some (true, e1) => a e1
  | some (false, e1) => b e1
  | none => none

section
variable {H H' : Hp} {Av : Addr → Prop}
/-- an operand: data, or an owned object's -/
def Vw (H : Hp) (Av : Addr → Prop) (v : V) (d : D) : Prop := Va H Av v d ∨ ∃ a, v = .ref a ∧ Ow H Av a d
theorem Wk.vw {W : Wd} {own : List (Nat × Addr)} {v : V} {d : D} (h : Wk W own H v d) : Vw H (Avd W own) v d := by
  rcases h with h | ⟨p, _, _, e, o⟩
  · exact .inl h
  · exact .inr ⟨p.2, e, o⟩
def Vws (H : Hp) (Av : Addr → Prop) : List V → List D → Prop
  | [], [] => True
  | v :: vs, d :: ds => Vw H Av v d ∧ Vws H Av vs ds
  | _, _ => False
theorem Wks.vws {W : Wd} {own : List (Nat × Addr)} : ∀ {vs : List V} {ds : List D}, Wks W own H vs ds → Vws H (Avd W own) vs ds
  | [], [], _ => trivial
  | _ :: _, _ :: _, h => ⟨h.1.vw, Wks.vws h.2⟩
  | [], _ :: _, h => h.elim
  | _ :: _, [], h => h.elim
def Trk (H : Hp) (Av : Addr → Prop) : Prop := ∀ a, Av a → ∃ o, H a = some o
theorem Trk.new (t : Trk H Av) {p : Addr} (h : H p = none) : ¬ Av p := fun z => by
  obtain ⟨o, e⟩ := t p z
  rw [h] at e; cases e
theorem same_upd {p : Addr} {o : HO} (h : H p = none) : Same H (upd H p o) := fun b x e => by
  rw [upd_ne (ne_of_none e h)]
  exact e
theorem Va.same {v : V} {d : D} (k : Same H H') (h : Va H Av v d) : Va H' Av v d := Va.to (fun a o e _ => k a o e) (fun _ _ _ n => n) d v h
theorem Vas.same {v : List V} {d : List D} (k : Same H H') (h : Vas H Av v d) : Vas H' Av v d := Vas.to (fun a o e _ => k a o e) (fun _ _ _ n => n) d v h
theorem Vas.notnew {v : List V} {d : List D} {p : Addr} (hp : H p = none) (h : Vas H Av v d) : Vas H (fun a => Av a ∨ a = p) v d :=
  Vas.to (fun a o e _ => e) (fun a o e n z => by
    rcases z with z | z
    · exact n z
    · rw [z, hp] at e; cases e) d v h

/-- a rule of two operands: what it asks is had, where f tells an answer -/
def P2 (r : R2) (f : D → D → Option D) : Prop := ∀ (H : Hp) (Av : Addr → Prop) (v u : V) (x y d : D) (Q : VK), Trk H Av → Vw H Av v x → Vw H Av u y → f x y = some d →
  (∀ z H', Same H H' → Va H' Av z d → Q z H') → r v u H Q
/-- .. and the answer is a new object -/
def P2n (r : R2) (f : D → D → Option D) : Prop := ∀ (H : Hp) (Av : Addr → Prop) (v u : V) (x y d : D) (Q : VK), Trk H Av → Vw H Av v x → Vw H Av u y → f x y = some d →
  (∀ p H', Same H H' → H p = none → (∀ b, b ≠ p → H' b = H b) → Ow H' (fun a => Av a ∨ a = p) p d → Q (.ref p) H') → r v u H Q
def P1 (r : V → Hp → VK → Prop) (f : D → Option D) : Prop := ∀ (H : Hp) (Av : Addr → Prop) (v : V) (x d : D) (Q : VK), Trk H Av → Vw H Av v x → f x = some d →
  (∀ z H', Same H H' → Va H' Av z d → Q z H') → r v H Q
def PL (r : List V → Hp → VK → Prop) (f : List D → Option D) : Prop := ∀ (H : Hp) (Av : Addr → Prop) (vs : List V) (xs : List D) (d : D) (Q : VK), Trk H Av → Vws H Av vs xs → f xs = some d →
  (∀ z H', Same H H' → Va H' Av z d → Q z H') → r vs H Q
def PLn (r : List V → Hp → VK → Prop) (f : List D → Option D) : Prop := ∀ (H : Hp) (Av : Addr → Prop) (vs : List V) (xs : List D) (d : D) (Q : VK), Trk H Av → Vws H Av vs xs → f xs = some d →
  (∀ p H', Same H H' → H p = none → Ow H' (fun a => Av a ∨ a = p) p d → Q (.ref p) H') → r vs H Q
end

/-! ### choices among rules -/
section
variable {X : Cx}
def orT (t u : TE) : TE := fun σ H Q => t σ H Q ∨ u σ H Q
theorem PE.or {e : Expr} {t u : TE} (h1 : PE X e t) (h2 : PE X e u) : PE X e (orT t u) := ⟨fun pins s σ H Q I h => by
  rcases h with h | h
  · exact h1.run pins s σ H Q I h
  · exact h2.run pins s σ H Q I h⟩
def or2 (r q : R2) : R2 := fun x y H Q => r x y H Q ∨ q x y H Q
theorem OpR.or {f : Value → Value → Sem Value} {r q : R2} (h1 : OpR X f r) (h2 : OpR X f q) : OpR X f (or2 r q) := by
  intro pins s σ H x y v u Q I rx ry h
  rcases h with h | h
  · exact h1 pins s σ H x y v u Q I rx ry h
  · exact h2 pins s σ H x y v u Q I rx ry h
def orL (r q : List V → Hp → VK → Prop) : List V → Hp → VK → Prop := fun vs H Q => r vs H Q ∨ q vs H Q
theorem CallR.or {f : Value} {r q : List V → Hp → VK → Prop} (h1 : CallR X f r) (h2 : CallR X f q) : CallR X f (orL r q) := by
  intro pins s σ H xs us Q I rx h
  rcases h with h | h
  · exact h1 pins s σ H xs us Q I rx h
  · exact h2 pins s σ H xs us Q I rx h
end
theorem P2.or {r q : R2} {f g h : D → D → Option D} (h1 : P2 r f) (h2 : P2 q g) (hh : ∀ x y d, h x y = some d → f x y = some d ∨ g x y = some d) : P2 (or2 r q) h :=
  fun H Av v u x y d Q t a b e k => (hh x y d e).elim (fun e => .inl (h1 H Av v u x y d Q t a b e k)) fun e => .inr (h2 H Av v u x y d Q t a b e k)
theorem P2n.or {r q : R2} {f g h : D → D → Option D} (h1 : P2n r f) (h2 : P2n q g) (hh : ∀ x y d, h x y = some d → f x y = some d ∨ g x y = some d) : P2n (or2 r q) h :=
  fun H Av v u x y d Q t a b e k => (hh x y d e).elim (fun e => .inl (h1 H Av v u x y d Q t a b e k)) fun e => .inr (h2 H Av v u x y d Q t a b e k)
theorem PL.or {r q : List V → Hp → VK → Prop} {f g h : List D → Option D} (h1 : PL r f) (h2 : PL q g) (hh : ∀ x d, h x = some d → f x = some d ∨ g x = some d) : PL (orL r q) h :=
  fun H Av v x d Q t a e k => (hh x d e).elim (fun e => .inl (h1 H Av v x d Q t a e k)) fun e => .inr (h2 H Av v x d Q t a e k)

section
variable {c : Ctx} {e a b : Expr} {es : List Expr} {pos : Pos} {m ma mb : EM}

/-! ### constants, names -/
theorem re_int {i j} : RE c (.Constant (.int i) j pos) (eC (.int i)) :=
  ⟨tC (.int i), fun _ _ => pe_int, fun W own σ H env d env' Q f G e q => by cases e; exact q _ _ (Ex.refl H) G (.int i)⟩
theorem re_bl {i j} : RE c (.Constant (.bool i) j pos) (eC (.bool i)) :=
  ⟨tC (.bl i), fun _ _ => pe_bl, fun W own σ H env d env' Q f G e q => by cases e; exact q _ _ (Ex.refl H) G (.bl i)⟩
theorem re_non {j} : RE c (.Constant .none j pos) (eC .none) :=
  ⟨tC .non, fun _ _ => pe_non, fun W own σ H env d env' Q f G e q => by cases e; exact q _ _ (Ex.refl H) G .non⟩
theorem re_str {x j} : RE c (.Constant (.str x) j pos) (eC (.str x)) :=
  ⟨tC (.str x), fun _ _ => pe_str, fun W own σ H env d env' Q f G e q => by cases e; exact q _ _ (Ex.refl H) G (.str x)⟩

theorem eV_some {i : Nat} {env env' : Env} {d : D} (h : eV i env = some (d, env')) : env[i]? = some (some d) ∧ env' = env := by
  unfold eV at h
  split at h
  · rename_i d' e
    cases h
    exact ⟨e, rfl⟩
  · cases h
theorem re_v {i : Nat} {x : Str} (hN : c.N[i]? = some x) (hv : c.sc.names.lookup x = some .local ∨ c.sc.names.lookup x = some .cell ∨ c.sc.names.lookup x = some .free) (ho : i ∉ c.os) (hd : (x == ("__debug__" : Str)) = false := by decide) (hcd : (x == ("__classdict__" : Str)) = false := by decide) :
    RE c (.Name x pos) (eV i) := by
  refine ⟨tVar i, fun X h => pe_var (by rw [h.n]; exact hN) (by unfold Vis; rw [h.sc]; exact hv) hd hcd, fun W own σ H env d env' Q f G e q => ?_⟩
  obtain ⟨e1, rfl⟩ := eV_some e
  obtain ⟨v, e2, r⟩ := G.va i d e1 fun hi => by
    obtain ⟨p, hp, rfl⟩ := List.mem_map.mp hi
    have := G.osub p hp
    rw [f.2.1] at this
    exact ho this
  exact ⟨v, e2, q v H (Ex.refl H) G r⟩
theorem rw_v {i : Nat} {x : Str} (hN : c.N[i]? = some x) (hv : c.sc.names.lookup x = some .local ∨ c.sc.names.lookup x = some .cell ∨ c.sc.names.lookup x = some .free) (ho : c.pw ≠ some i) (hd : (x == ("__debug__" : Str)) = false := by decide) (hcd : (x == ("__classdict__" : Str)) = false := by decide) :
    RW c (.Name x pos) (eV i) := by
  refine ⟨tVar i, fun X h => pe_var (by rw [h.n]; exact hN) (by unfold Vis; rw [h.sc]; exact hv) hd hcd, fun W own σ H env d env' Q f G e q => ?_⟩
  obtain ⟨e1, rfl⟩ := eV_some e
  by_cases hi : i ∈ own.map (·.1)
  · obtain ⟨p, hp, rfl⟩ := List.mem_map.mp hi
    obtain ⟨e2, d', e3, o⟩ := G.ow p hp
    rw [e1] at e3
    cases e3
    refine ⟨_, e2, q _ H (Ex.refl H) G (.inr ⟨p, hp, fun z => ?_, rfl, o⟩)⟩
    exact ho (by rw [← f.1, z]; rfl)
  · obtain ⟨v, e2, r⟩ := G.va i d e1 hi
    exact ⟨v, e2, q v H (Ex.refl H) G (.inl r)⟩
/-- a module's constant -/
theorem re_glob {x : Str} {v : V} {u : Value} {d : D} (hg : c.sc.names.lookup x = some .globalImplicit) (hm : c.mg x = some u) (r : RelV v u) (hv : ∀ H Av, Va H Av v d) (hd : (x == ("__debug__" : Str)) = false := by decide) : RE c (.Name x pos) (eC d) :=
  ⟨tC v, fun X h => pe_glob (by show X.env.scope.names.lookup x = _; rw [h.sc]; exact hg) (by rw [h.mg]; exact hm) r hd, fun W own σ H env d' env' Q f G e q => by cases e; exact q _ _ (Ex.refl H) G (hv _ _)⟩

/-! ### operators -/
theorem Good.trk {W : Wd} {own : List (Nat × Addr)} {σ : St} {H : Hp} {env : Env} (G : Good W own σ H env) : Trk H (Avd W own) := fun _ h => Avd.trk G h
theorem eB_some {f : D → D → Option D} {env env' : Env} {d : D} (h : eB f ma mb env = some (d, env')) : ∃ x e1 y, ma env = some (x, e1) ∧ mb e1 = some (y, env') ∧ f x y = some d := by
  unfold eB at h
  split at h
  · rename_i x e1 h1
    split at h
    · rename_i y e2 h2
      split at h
      · rename_i z h3
        cases h
        exact ⟨x, e1, y, h1, h2, h3⟩
      · cases h
    · cases h
  · cases h
/-- the operands one behind the other -/
theorem two {ta tb : TE} {W : Wd} {own : List (Nat × Addr)} {σ : St} {H : Hp} {env e1 env' : Env} {x y : D} {R : V → V → Hp → Prop} (f : Fit c W) (G : Good W own σ H env)
    (ha : ∀ (W : Wd) (own : List (Nat × Addr)) (σ : St) (H : Hp) (env : Env) (d : D) (env' : Env) (Q : VK), Fit c W → Good W own σ H env → ma env = some (d, env') → (∀ v H', Ex W H H' → Good W own σ H' env' → Wk W own H' v d → Q v H') → ta σ H Q)
    (hb : ∀ (W : Wd) (own : List (Nat × Addr)) (σ : St) (H : Hp) (env : Env) (d : D) (env' : Env) (Q : VK), Fit c W → Good W own σ H env → mb env = some (d, env') → (∀ v H', Ex W H H' → Good W own σ H' env' → Wk W own H' v d → Q v H') → tb σ H Q)
    (h1 : ma env = some (x, e1)) (h2 : mb e1 = some (y, env')) (k : ∀ v u H', Ex W H H' → Good W own σ H' env' → Wk W own H' v x → Wk W own H' u y → R v u H') : ta σ H fun v H1 => tb σ H1 fun u H2 => R v u H2 :=
  ha W own σ H env x e1 _ f G h1 fun v H1 x1 G1 w1 => hb W own σ H1 e1 y env' _ f G1 h2 fun u H2 x2 G2 w2 => k v u H2 (x1.trans x2) G2 (w1.ex G1 x2) w2
theorem re_bin {op : Operator} {r : R2} {f : D → D → Option D} (ho : ∀ X, InC c X → OpR X (binaryOp op) r) (hf : P2 r f) (ha : RW c a ma) (hb : RW c b mb) : RE c (.BinOp a op b pos) (eB f ma mb) := by
  obtain ⟨ta, pa, ha⟩ := ha
  obtain ⟨tb, pb, hb⟩ := hb
  refine ⟨tOp r ta tb, fun X h => pe_op (ho X h) (pa X h) (pb X h), fun W own σ H env d env' Q ft G e q => ?_⟩
  obtain ⟨x, e1, y, h1, h2, h3⟩ := eB_some e
  exact two ft G ha hb h1 h2 fun v u H' x1 G' w1 w2 => hf H' (Avd W own) v u x y d Q G'.trk w1.vw w2.vw h3 fun z H2 s r => q z H2 (x1.trans (Ex.same s)) (G'.same s) r
theorem re_cmp {op : CmpOp} {r : R2} {f : D → D → Option D} (ho : ∀ X, InC c X → OpR X (compareOp op) r) (hf : P2 r f) (ha : RW c a ma) (hb : RW c b mb) (hm : behindInMarks op b = false := by first | exact nomark _ | rfl) : RE c (.Compare a [op] [b] pos) (eB f ma mb) := by
  obtain ⟨ta, pa, ha⟩ := ha
  obtain ⟨tb, pb, hb⟩ := hb
  refine ⟨tOp r ta tb, fun X h => pe_cmpR (ho X h) (pa X h) (pb X h) hm, fun W own σ H env d env' Q ft G e q => ?_⟩
  obtain ⟨x, e1, y, h1, h2, h3⟩ := eB_some e
  exact two ft G ha hb h1 h2 fun v u H' x1 G' w1 w2 => hf H' (Avd W own) v u x y d Q G'.trk w1.vw w2.vw h3 fun z H2 s r => q z H2 (x1.trans (Ex.same s)) (G'.same s) r
theorem bV_some {env env' : Env} {k : Bool} (h : bV ma env = some (k, env')) : ma env = some (.bool k, env') := by
  unfold bV at h
  split at h
  · rename_i b e1 h1
    cases h
    exact h1
  · cases h
theorem Va.bool {H : Hp} {Av : Addr → Prop} {v : V} {k : Bool} (h : Va H Av v (.bool k)) : v = .bl k := by cases h; rfl
theorem rt_cmp {op : CmpOp} {r : R2} {f : D → D → Option D} (ho : ∀ X, InC c X → OpR X (compareOp op) r) (hf : P2 r f) (ha : RW c a ma) (hb : RW c b mb) (hm : behindInMarks op b = false := by first | exact nomark _ | rfl) : RT c (.Compare a [op] [b] pos) (bV (eB f ma mb)) := by
  obtain ⟨ta, pa, ha⟩ := ha
  obtain ⟨tb, pb, hb⟩ := hb
  refine ⟨tTest (tOp r ta tb), fun X h => pt_cmpR (ho X h) (pa X h) (pb X h) hm, fun W own σ H env d env' Q ft G e q => ?_⟩
  obtain ⟨x, e1, y, h1, h2, h3⟩ := eB_some (bV_some e)
  exact two ft G ha hb h1 h2 fun v u H' x1 G' w1 w2 => hf H' (Avd W own) v u x y _ _ G'.trk w1.vw w2.vw h3 fun z H2 s r => ⟨d, r.bool, q H2 (x1.trans (Ex.same s)) (G'.same s)⟩
theorem rn_bin {op : Operator} {r : R2} {f : D → D → Option D} (ho : ∀ X, InC c X → OpR X (binaryOp op) r) (hf : P2n r f) (ha : RW c a ma) (hb : RW c b mb) : RN c (.BinOp a op b pos) (eB f ma mb) := by
  obtain ⟨ta, pa, ha⟩ := ha
  obtain ⟨tb, pb, hb⟩ := hb
  refine ⟨tOp r ta tb, fun X h => pe_op (ho X h) (pa X h) (pb X h), fun W own σ H env d env' Q ft G e q => ?_⟩
  obtain ⟨x, e1, y, h1, h2, h3⟩ := eB_some e
  refine two ft G ha hb h1 h2 fun v u H' x1 G' w1 w2 => hf H' (Avd W own) v u x y d Q G'.trk w1.vw w2.vw h3 fun p H2 s hp k ow => ?_
  exact q p H2 (x1.trans (Ex.same s)) (by
    cases z : H p with
    | none => rfl
    | some o =>
      exfalso
      by_cases hn : ∀ i, W.pot ≠ some (i, p)
      · have := x1 p o z hn
        rw [hp] at this; cases this
      · simp only [Classical.not_forall, Decidable.not_not] at hn
        obtain ⟨i, hi⟩ := hn
        obtain ⟨o', e'⟩ := Avd.trk G' (G'.potAv i p hi)
        rw [hp] at e'; cases e') (G'.trk.new hp) ((G'.more hp).same s) ow
theorem eU_some {f : D → Option D} {env env' : Env} {d : D} (h : eU f ma env = some (d, env')) : ∃ x, ma env = some (x, env') ∧ f x = some d := by
  unfold eU at h
  split at h
  · rename_i x e1 h1
    split at h
    · rename_i z h3
      cases h
      exact ⟨x, h1, h3⟩
    · cases h
  · cases h
theorem re_un {op : UnaryOp} {r : V → Hp → VK → Prop} {f : D → Option D} (ho : ∀ X, InC c X → UnR X (unaryOp op) r) (hf : P1 r f) (ha : RW c a ma) : RE c (.UnaryOp op a pos) (eU f ma) := by
  obtain ⟨ta, pa, ha⟩ := ha
  refine ⟨tUn r ta, fun X h => pe_un (ho X h) (pa X h), fun W own σ H env d env' Q ft G e q => ?_⟩
  obtain ⟨x, h1, h3⟩ := eU_some e
  exact ha W own σ H env x env' _ ft G h1 fun v H' x1 G' w1 => hf H' (Avd W own) v x d Q G'.trk w1.vw h3 fun z H2 s r => q z H2 (x1.trans (Ex.same s)) (G'.same s) r

/-! ### tests -/
theorem rt_val (ha : RE c a ma) (he : ∀ env whole, isTrue a env whole = (do let v ← whole; standAt a.pos; holding [v] (truthy v)) := by intro _ _; rfl) : RT c a (bV ma) := by
  obtain ⟨ta, pa, ha⟩ := ha
  refine ⟨tB ta, fun X h => pt_val (pa X h) (he _), fun W own σ H env d env' Q ft G e q => ?_⟩
  exact ha W own σ H env _ env' _ ft G (bV_some e) fun v H' x1 G' r => ⟨d, r.bool, q H' x1 G'⟩
variable {ba bb : BM} {rest : List Expr}
theorem rt_not (ha : RT c a ba) : RT c (.UnaryOp .Not a pos) (bNot ba) := by
  obtain ⟨ta, pa, ha⟩ := ha
  refine ⟨tNot ta, fun X h => pt_not (pa X h), fun W own σ H env d env' Q ft G e q => ?_⟩
  unfold bNot at e
  split at e
  · rename_i k e1 h1
    cases e
    exact ha W own σ H env k _ _ ft G h1 fun H' x1 G' => q H' x1 G'
  · cases e
/-- and, or: a chain of tests -/
def RTw (c : Ctx) (e : Expr) (m : BM) : Prop :=
  ∃ t : TT, (∀ X, InC c X → PW X e t) ∧ ∀ (W : Wd) (own : List (Nat × Addr)) (σ : St) (H : Hp) (env : Env) (b : Bool) (env' : Env) (Q : Bool → Hp → Prop), Fit c W → Good W own σ H env → m env = some (b, env') →
    (∀ H', Ex W H H' → Good W own σ H' env' → Q b H') → t σ H Q
theorem RTw.rt (h : RTw c e ba) : RT c e ba := by
  obtain ⟨t, p, h⟩ := h
  exact ⟨t, fun X i => (p X i).pt, h⟩
theorem rt_and1 (ha : RT c a ba) : RTw c (.BoolOp .And [a] pos) ba := by
  obtain ⟨ta, pa, ha⟩ := ha
  exact ⟨ta, fun X h => pw_and1 (pa X h), ha⟩
theorem rt_or1 (ha : RT c a ba) : RTw c (.BoolOp .Or [a] pos) ba := by
  obtain ⟨ta, pa, ha⟩ := ha
  exact ⟨ta, fun X h => pw_or1 (pa X h), ha⟩
theorem rt_and (ha : RT c a ba) (hb : RTw c (.BoolOp .And (b :: rest) pos) bb) : RTw c (.BoolOp .And (a :: b :: rest) pos) (bAnd ba bb) := by
  obtain ⟨ta, pa, ha⟩ := ha
  obtain ⟨tb, pb, hb⟩ := hb
  refine ⟨tAnd ta tb, fun X h => pw_and (pa X h) (pb X h), fun W own σ H env d env' Q ft G e q => ?_⟩
  unfold bAnd at e
  split at e
  · rename_i e1 h1
    refine ha W own σ H env true e1 _ ft G h1 fun H1 x1 G1 => ?_
    rw [if_pos rfl]
    exact hb W own σ H1 e1 d env' Q ft G1 e fun H2 x2 G2 => q H2 (x1.trans x2) G2
  · rename_i hne
    refine ha W own σ H env d env' _ ft G e fun H1 x1 G1 => ?_
    have : d = false := by
      cases d with
      | false => rfl
      | true => exact absurd e (hne env')
    subst this
    exact q H1 x1 G1
theorem rt_or (ha : RT c a ba) (hb : RTw c (.BoolOp .Or (b :: rest) pos) bb) : RTw c (.BoolOp .Or (a :: b :: rest) pos) (bOr ba bb) := by
  obtain ⟨ta, pa, ha⟩ := ha
  obtain ⟨tb, pb, hb⟩ := hb
  refine ⟨tOr ta tb, fun X h => pw_or (pa X h) (pb X h), fun W own σ H env d env' Q ft G e q => ?_⟩
  unfold bOr at e
  split at e
  · rename_i e1 h1
    refine ha W own σ H env false e1 _ ft G h1 fun H1 x1 G1 => ?_
    exact hb W own σ H1 e1 d env' Q ft G1 e fun H2 x2 G2 => q H2 (x1.trans x2) G2
  · rename_i hne
    refine ha W own σ H env d env' _ ft G e fun H1 x1 G1 => ?_
    have : d = true := by
      cases d with
      | true => rfl
      | false => exact absurd e (hne env')
    subst this
    exact q H1 x1 G1
/-- and, or, not as values (of bools) -/
theorem re_one {op} (ha : RE c a ma) : RE c (.BoolOp op [a] pos) ma := by
  obtain ⟨ta, pa, ha⟩ := ha
  exact ⟨ta, fun X h => pe_one (pa X h), ha⟩
def eAnd (a b : EM) : EM := fun e => match a e with
  | some (.bool true, e1) => b e1
  | some (.bool false, e1) => some (.bool false, e1)
  | _ => none
def eOr (a b : EM) : EM := fun e => match a e with
  | some (.bool false, e1) => b e1
  | some (.bool true, e1) => some (.bool true, e1)
  | _ => none
def eNot (a : EM) : EM := fun e => match a e with
  | some (.bool k, e1) => some (.bool (!k), e1)
  | _ => none
theorem re_and (ha : RE c a ma) (hb : RE c (.BoolOp .And (b :: rest) pos) mb) : RE c (.BoolOp .And (a :: b :: rest) pos) (eAnd ma mb) := by
  obtain ⟨ta, pa, ha⟩ := ha
  obtain ⟨tb, pb, hb⟩ := hb
  refine ⟨tAndV ta tb, fun X h => pe_and (pa X h) (pb X h), fun W own σ H env d env' Q ft G e q => ?_⟩
  unfold eAnd at e
  split at e
  · rename_i e1 h1
    refine ha W own σ H env _ e1 _ ft G h1 fun v H1 x1 G1 r => ⟨true, r.bool, ?_⟩
    rw [if_pos rfl]
    exact hb W own σ H1 e1 d env' Q ft G1 e fun v H2 x2 G2 => q v H2 (x1.trans x2) G2
  · rename_i e1 h1
    cases e
    exact ha W own σ H env _ _ _ ft G h1 fun v H1 x1 G1 r => ⟨false, r.bool, q _ H1 x1 G1 (.bl false)⟩
  · cases e
theorem re_or (ha : RE c a ma) (hb : RE c (.BoolOp .Or (b :: rest) pos) mb) : RE c (.BoolOp .Or (a :: b :: rest) pos) (eOr ma mb) := by
  obtain ⟨ta, pa, ha⟩ := ha
  obtain ⟨tb, pb, hb⟩ := hb
  refine ⟨tOrV ta tb, fun X h => pe_or (pa X h) (pb X h), fun W own σ H env d env' Q ft G e q => ?_⟩
  unfold eOr at e
  split at e
  · rename_i e1 h1
    refine ha W own σ H env _ e1 _ ft G h1 fun v H1 x1 G1 r => ⟨false, r.bool, ?_⟩
    exact hb W own σ H1 e1 d env' Q ft G1 e fun v H2 x2 G2 => q v H2 (x1.trans x2) G2
  · rename_i e1 h1
    cases e
    exact ha W own σ H env _ _ _ ft G h1 fun v H1 x1 G1 r => ⟨true, r.bool, q _ H1 x1 G1 (.bl true)⟩
  · cases e
theorem re_not (ha : RE c a ma) : RE c (.UnaryOp .Not a pos) (eNot ma) := by
  obtain ⟨ta, pa, ha⟩ := ha
  refine ⟨tNotV ta, fun X h => pe_not (pa X h), fun W own σ H env d env' Q ft G e q => ?_⟩
  unfold eNot at e
  split at e
  · rename_i k e1 h1
    cases e
    exact ha W own σ H env _ _ _ ft G h1 fun v H1 x1 G1 r => ⟨k, r.bool, q _ H1 x1 G1 (.bl _)⟩
  · cases e
theorem re_if {t : Expr} {bt : BM} (ht : RT c t bt) (ha : RE c a ma) (hb : RE c b mb) : RE c (.IfExp t a b pos) (eI bt ma mb) := by
  obtain ⟨tt, pt, ht⟩ := ht
  obtain ⟨ta, pa, ha⟩ := ha
  obtain ⟨tb, pb, hb⟩ := hb
  refine ⟨tIf tt ta tb, fun X h => pe_ifExp (pt X h) (pa X h) (pb X h), fun W own σ H env d env' Q ft G e q => ?_⟩
  unfold eI at e
  split at e
  · rename_i e1 h1
    refine ht W own σ H env true e1 _ ft G h1 fun H1 x1 G1 => ?_
    rw [if_pos rfl]
    exact ha W own σ H1 e1 d env' Q ft G1 e fun v H2 x2 G2 => q v H2 (x1.trans x2) G2
  · rename_i e1 h1
    refine ht W own σ H env false e1 _ ft G h1 fun H1 x1 G1 => ?_
    exact hb W own σ H1 e1 d env' Q ft G1 e fun v H2 x2 G2 => q v H2 (x1.trans x2) G2
  · cases e
theorem rn_if {t : Expr} {bt : BM} (ht : RT c t bt) (ha : RN c a ma) (hb : RN c b mb) : RN c (.IfExp t a b pos) (eI bt ma mb) := by
  obtain ⟨tt, pt, ht⟩ := ht
  obtain ⟨ta, pa, ha⟩ := ha
  obtain ⟨tb, pb, hb⟩ := hb
  have fresh : ∀ {W : Wd} {own : List (Nat × Addr)} {σ : St} {H H1 : Hp} {env e1 : Env} {p : Addr}, Good W own σ H env → Good W own σ H1 e1 → Ex W H H1 → H1 p = none → H p = none := fun {W own σ H H1 env e1 p} G G1 x1 hp => by
    cases z : H p with
    | none => rfl
    | some o =>
      exfalso
      by_cases hn : ∀ i, W.pot ≠ some (i, p)
      · have := x1 p o z hn
        rw [hp] at this; cases this
      · simp only [Classical.not_forall, Decidable.not_not] at hn
        obtain ⟨i, hi⟩ := hn
        obtain ⟨o', e'⟩ := Avd.trk G1 (G1.potAv i p hi)
        rw [hp] at e'; cases e'
  refine ⟨tIf tt ta tb, fun X h => pe_ifExp (pt X h) (pa X h) (pb X h), fun W own σ H env d env' Q ft G e q => ?_⟩
  unfold eI at e
  split at e
  · rename_i e1 h1
    refine ht W own σ H env true e1 _ ft G h1 fun H1 x1 G1 => ?_
    rw [if_pos rfl]
    exact ha W own σ H1 e1 d env' Q ft G1 e fun p H2 x2 hp G2 => q p H2 (x1.trans x2) (fresh G G1 x1 hp) G2
  · rename_i e1 h1
    refine ht W own σ H env false e1 _ ft G h1 fun H1 x1 G1 => ?_
    exact hb W own σ H1 e1 d env' Q ft G1 e fun p H2 x2 hp G2 => q p H2 (x1.trans x2) (fresh G G1 x1 hp) G2
  · cases e
end
end Fw
set_option Elab.async false
set_option linter.all false
set_option maxRecDepth 100000
/-! Fw3: calls, displays, places, slices. -/
namespace Fw
open PySem PySem.Spec PyProof.Rows L2

section
variable {c : Ctx} {e a b : Expr} {es : List Expr} {pos : Pos} {m ma mb : EM} {mr : AM}

/-- what is new behind Ex was new ahead of it -/
theorem Ex.new {W : Wd} {own : List (Nat × Addr)} {σ : St} {H H1 : Hp} {env : Env} {p : Addr} (G1 : Good W own σ H1 env) (x1 : Ex W H H1) (hp : H1 p = none) : H p = none := by
  cases z : H p with
  | none => rfl
  | some o =>
    exfalso
    by_cases hn : ∀ i, W.pot ≠ some (i, p)
    · have := x1 p o z hn
      rw [hp] at this; cases this
    · simp only [Classical.not_forall, Decidable.not_not] at hn
      obtain ⟨i, hi⟩ := hn
      obtain ⟨o', e'⟩ := Avd.trk G1 (G1.potAv i p hi)
      rw [hp] at e'; cases e'

/-! ### argument lists -/
theorem aC_some {env env' : Env} {ds : List D} (h : aC ma mr env = some (ds, env')) : ∃ x e1 xs, ma env = some (x, e1) ∧ mr e1 = some (xs, env') ∧ ds = x :: xs := by
  unfold aC at h
  split at h
  · rename_i x e1 h1
    split at h
    · rename_i xs e2 h2
      cases h
      exact ⟨x, e1, xs, h1, h2, rfl⟩
    · cases h
  · cases h
theorem ra_nil : RA c [] aN := ⟨tNil, fun _ _ => pa_nil, fun W own σ H env d env' Q f G e q => by cases e; exact q _ _ (Ex.refl H) G trivial⟩
theorem ra_cons (ha : RW c a ma) (hr : RA c es mr) (hs : ∀ env, starEach (a :: es) env = (false, eval a env) :: starEach es env := by intro _; rfl) : RA c (a :: es) (aC ma mr) := by
  obtain ⟨ta, pa, ha⟩ := ha
  obtain ⟨tr, pr, hr⟩ := hr
  refine ⟨tCons ta tr, fun X h => pa_cons (pa X h) (pr X h) (hs _), fun W own σ H env d env' Q ft G e q => ?_⟩
  obtain ⟨x, e1, xs, h1, h2, rfl⟩ := aC_some e
  exact ha W own σ H env x e1 _ ft G h1 fun v H1 x1 G1 w1 => hr W own σ H1 e1 xs env' _ ft G1 h2 fun vs H2 x2 G2 w2 => q (v :: vs) H2 (x1.trans x2) G2 ⟨w1.ex G1 x2, w2⟩
theorem ras_nil : RAs c [] aN := ⟨tNil, fun _ _ => pa_nil, fun W own σ H env d env' Q f G e q => by cases e; exact q _ _ (Ex.refl H) G .nil⟩
theorem ras_cons (ha : RE c a ma) (hr : RAs c es mr) (hs : ∀ env, starEach (a :: es) env = (false, eval a env) :: starEach es env := by intro _; rfl) : RAs c (a :: es) (aC ma mr) := by
  obtain ⟨ta, pa, ha⟩ := ha
  obtain ⟨tr, pr, hr⟩ := hr
  refine ⟨tCons ta tr, fun X h => pa_cons (pa X h) (pr X h) (hs _), fun W own σ H env d env' Q ft G e q => ?_⟩
  obtain ⟨x, e1, xs, h1, h2, rfl⟩ := aC_some e
  exact ha W own σ H env x e1 _ ft G h1 fun v H1 x1 G1 w1 => hr W own σ H1 e1 xs env' _ ft G1 h2 fun vs H2 x2 G2 w2 => q (v :: vs) H2 (x1.trans x2) G2 (.cons (w1.ex G1.potAv x2) w2)
theorem RAs.ra (h : RAs c es mr) : RA c es mr := by
  obtain ⟨t, p, h⟩ := h
  refine ⟨t, p, fun W own σ H env d env' Q ft G e q => h W own σ H env d env' Q ft G e fun vs H' x G' r => q vs H' x G' ?_⟩
  clear q e
  induction r using Vas.rec (motive_1 := fun _ _ _ => True) with
  | nil => trivial
  | cons h1 h2 _ ih => exact ⟨.inl h1, ih⟩
  | _ => trivial

/-! ### built-in functions -/
theorem eF_some {f : List D → Option D} {env env' : Env} {d : D} (h : eF f mr env = some (d, env')) : ∃ xs, mr env = some (xs, env') ∧ f xs = some d := by
  unfold eF at h
  split at h
  · rename_i x e1 h1
    split at h
    · rename_i z h3
      cases h
      exact ⟨x, h1, h3⟩
    · cases h
  · cases h
variable {x : Str} {id T : String} {r : List V → Hp → VK → Prop} {f : List D → Option D} {p : Pos}
theorem re_callB (hc : ∀ X, InC c X → CallR X (.builtin id) r) (hf : PL r f) (hg : c.sc.names.lookup x = some .globalImplicit) (hm : c.mg x = none) (hv : bootBuiltins x = some (.builtin id)) (ha : RA c (a :: es) mr)
    (hn : x ≠ "__name__" := by decide) (hdb : (x == ("__debug__" : Str)) = false := by decide)
    (he : ∀ env, starEach (a :: es) env = (false, eval a env) :: starEach es env := by intro _; rfl) (hpl : ∀ env, (backTo pos (starEach es env)).any (·.1) = false := by intro _; rfl) : RE c (.Call (.Name x p) (a :: es) [] pos) (eF f mr) := by
  obtain ⟨ta, pa, ha⟩ := ha
  refine ⟨tCB r ta, fun X h => pe_callB (hc X h) (by show X.env.scope.names.lookup x = _; rw [h.sc]; exact hg) (by rw [h.mg]; exact hm) hv (pa X h) hn hdb (he _) (hpl _), fun W own σ H env d env' Q ft G e q => ?_⟩
  obtain ⟨xs, h1, h3⟩ := eF_some e
  exact ha W own σ H env xs env' _ ft G h1 fun vs H' x1 G' w => hf H' (Avd W own) vs xs d Q G'.trk w.vws h3 fun z H2 s r => q z H2 (x1.trans (Ex.same s)) (G'.same s) r
theorem re_callT (hc : ∀ X, InC c X → CallR X (.type T) r) (hf : PL r f) (hg : c.sc.names.lookup x = some .globalImplicit) (hm : c.mg x = none) (hv : bootBuiltins x = some (.type T)) (ha : RA c (a :: es) mr)
    (hn : x ≠ "__name__" := by decide) (hdb : (x == ("__debug__" : Str)) = false := by decide)
    (he : ∀ env, starEach (a :: es) env = (false, eval a env) :: starEach es env := by intro _; rfl) (hpl : ∀ env, (backTo pos (starEach es env)).any (·.1) = false := by intro _; rfl) : RE c (.Call (.Name x p) (a :: es) [] pos) (eF f mr) := by
  obtain ⟨ta, pa, ha⟩ := ha
  refine ⟨tCB r ta, fun X h => pe_callTy (hc X h) (by show X.env.scope.names.lookup x = _; rw [h.sc]; exact hg) (by rw [h.mg]; exact hm) hv (pa X h) hn hdb (he _) (hpl _), fun W own σ H env d env' Q ft G e q => ?_⟩
  obtain ⟨xs, h1, h3⟩ := eF_some e
  exact ha W own σ H env xs env' _ ft G h1 fun vs H' x1 G' w => hf H' (Avd W own) vs xs d Q G'.trk w.vws h3 fun z H2 s r => q z H2 (x1.trans (Ex.same s)) (G'.same s) r
theorem rn_callB (hc : ∀ X, InC c X → CallR X (.builtin id) r) (hf : PLn r f) (hg : c.sc.names.lookup x = some .globalImplicit) (hm : c.mg x = none) (hv : bootBuiltins x = some (.builtin id)) (ha : RA c (a :: es) mr)
    (hn : x ≠ "__name__" := by decide) (hdb : (x == ("__debug__" : Str)) = false := by decide)
    (he : ∀ env, starEach (a :: es) env = (false, eval a env) :: starEach es env := by intro _; rfl) (hpl : ∀ env, (backTo pos (starEach es env)).any (·.1) = false := by intro _; rfl) : RN c (.Call (.Name x p) (a :: es) [] pos) (eF f mr) := by
  obtain ⟨ta, pa, ha⟩ := ha
  refine ⟨tCB r ta, fun X h => pe_callB (hc X h) (by show X.env.scope.names.lookup x = _; rw [h.sc]; exact hg) (by rw [h.mg]; exact hm) hv (pa X h) hn hdb (he _) (hpl _), fun W own σ H env d env' Q ft G e q => ?_⟩
  obtain ⟨xs, h1, h3⟩ := eF_some e
  exact ha W own σ H env xs env' _ ft G h1 fun vs H' x1 G' w => hf H' (Avd W own) vs xs d Q G'.trk w.vws h3 fun p H2 s hp ow => q p H2 (x1.trans (Ex.same s)) (Ex.new G' x1 hp) (G'.trk.new hp) ((G'.more hp).same s) ow
theorem rn_callT (hc : ∀ X, InC c X → CallR X (.type T) r) (hf : PLn r f) (hg : c.sc.names.lookup x = some .globalImplicit) (hm : c.mg x = none) (hv : bootBuiltins x = some (.type T)) (ha : RA c (a :: es) mr)
    (hn : x ≠ "__name__" := by decide) (hdb : (x == ("__debug__" : Str)) = false := by decide)
    (he : ∀ env, starEach (a :: es) env = (false, eval a env) :: starEach es env := by intro _; rfl) (hpl : ∀ env, (backTo pos (starEach es env)).any (·.1) = false := by intro _; rfl) : RN c (.Call (.Name x p) (a :: es) [] pos) (eF f mr) := by
  obtain ⟨ta, pa, ha⟩ := ha
  refine ⟨tCB r ta, fun X h => pe_callTy (hc X h) (by show X.env.scope.names.lookup x = _; rw [h.sc]; exact hg) (by rw [h.mg]; exact hm) hv (pa X h) hn hdb (he _) (hpl _), fun W own σ H env d env' Q ft G e q => ?_⟩
  obtain ⟨xs, h1, h3⟩ := eF_some e
  exact ha W own σ H env xs env' _ ft G h1 fun vs H' x1 G' w => hf H' (Avd W own) vs xs d Q G'.trk w.vws h3 fun p H2 s hp ow => q p H2 (x1.trans (Ex.same s)) (Ex.new G' x1 hp) (G'.trk.new hp) ((G'.more hp).same s) ow

/-! ### displays -/
def dTup (xs : List D) : Option D := if xs.length ≤ 16777216 then some (.tuple xs) else none
def dLst (xs : List D) : Option D := if xs.length ≤ 16777216 then some (.list xs) else none
theorem line_le {n : Nat} (h : n ≤ 16777216) : n ≤ sizeLine := by rw [sizeLine_eq]; exact h
theorem re_tup {x1} (ha : RAs c es mr) : RE c (.Tuple es x1 pos) (eF dTup mr) := by
  obtain ⟨ta, pa, ha⟩ := ha
  refine ⟨tTup ta, fun X h => pe_tup (pa X h), fun W own σ H env d env' Q ft G e q => ?_⟩
  obtain ⟨xs, h1, h3⟩ := eF_some e
  refine ha W own σ H env xs env' _ ft G h1 fun vs H' x1 G' w => ?_
  unfold dTup at h3
  split at h3
  · rename_i hl
    cases h3
    refine ⟨line_le (by rw [w.len]; exact hl), fun p hp => ?_⟩
    have s := same_upd (o := .tup vs) hp
    exact q _ _ (x1.trans (Ex.same s)) (G'.same s) (.tup (.inl upd_same) (G'.trk.new hp) (w.same s))
  · cases h3
theorem rn_lst (ha : RAs c es mr) : RN c (.List es pos) (eF dLst mr) := by
  obtain ⟨ta, pa, ha⟩ := ha
  refine ⟨tLst ta, fun X h => pe_lst (pa X h), fun W own σ H env d env' Q ft G e q => ?_⟩
  obtain ⟨xs, h1, h3⟩ := eF_some e
  refine ha W own σ H env xs env' _ ft G h1 fun vs H' x1 G' w => ?_
  unfold dLst at h3
  split at h3
  · rename_i hl
    cases h3
    refine ⟨line_le (by rw [w.len]; exact hl), fun p hp => ?_⟩
    have s := same_upd (o := .lst vs) hp
    exact q p _ (x1.trans (Ex.same s)) (Ex.new G' x1 hp) (G'.trk.new hp) ((G'.more hp).same s) ⟨vs, xs, upd_same, rfl, (w.notnew hp).same s⟩
  · cases h3

/-! ### a place of a list, a tuple, a text -/
def atD (xs : List D) (i : Int) : Option D := (ixN xs.length i).bind fun j => xs[j]?
def dIx : D → D → Option D
  | .list xs, .int i => atD xs i
  | .tuple xs, .int i => atD xs i
  | .str z, .int i => if z.length ≤ 16777216 then (atI z.cps.toList i).map fun k => .str ⟨#[k]⟩ else none
  | _, _ => none
theorem atD_some {H : Hp} {Av : Addr → Prop} {vs : List V} {xs : List D} {i : Int} {d : D} (w : Vas H Av vs xs) (h : atD xs i = some d) : ∃ v, atI vs i = some v ∧ Va H Av v d := by
  unfold atD at h
  unfold atI
  rw [w.len]
  cases z : ixN xs.length i with
  | none => rw [z] at h; cases h
  | some j =>
    rw [z] at h
    obtain ⟨v, h1, h2⟩ := w.get (i := j) h
    exact ⟨v, h1, h2⟩
theorem p2_ix {K : PySem.W.Frag} : P2 (rIx K) dIx := by
  intro H Av v u x y d Q t hx hy hf k
  have hy' : ∀ i, y = .int i → u = .int i := fun i e => by
    subst e
    rcases hy with hy | ⟨a, _, _, _, _, e, _⟩
    · cases hy; rfl
    · cases e
  unfold dIx at hf
  split at hf
  · rename_i xs i
    have := hy' i rfl
    subst this
    refine .inl ?_
    rcases hx with hx | ⟨a, rfl, ys, ds, e1, e2, w⟩
    · cases hx with
      | lst r n w =>
        obtain ⟨z, h1, h2⟩ := atD_some w hf
        exact ⟨_, _, i, z, rfl, rfl, .inl r, h1, k z H (Same.refl H) h2⟩
    · cases e2
      obtain ⟨z, h1, h2⟩ := atD_some w hf
      exact ⟨a, _, i, z, rfl, rfl, .inl (.inl e1), h1, k z H (Same.refl H) h2⟩
  · rename_i xs i
    have := hy' i rfl
    subst this
    refine .inr (.inl ?_)
    rcases hx with hx | ⟨a, rfl, ys, ds, e1, e2, w⟩
    · cases hx with
      | tup r n w =>
        obtain ⟨z, h1, h2⟩ := atD_some w hf
        exact ⟨_, _, i, z, rfl, rfl, .inl r, h1, k z H (Same.refl H) h2⟩
    · cases e2
  · rename_i z i
    have := hy' i rfl
    subst this
    refine .inr (.inr ?_)
    rcases hx with hx | ⟨a, rfl, ys, ds, e1, e2, w⟩
    · cases hx
      split at hf
      · rename_i hl
        cases g : atI z.cps.toList i with
        | none => rw [g] at hf; cases hf
        | some kk =>
          rw [g] at hf
          cases hf
          exact ⟨z, i, kk, rfl, rfl, line_le hl, g, k _ H (Same.refl H) (.str _)⟩
      · cases hf
    · cases e2
  · cases hf
theorem re_ix (ha : RW c a ma) (hb : RE c b mb) (hs : PlainIx b := by intro _ _; rfl) : RE c (.Subscript a b pos) (eB dIx ma mb) := by
  obtain ⟨ta, pa, ha⟩ := ha
  obtain ⟨tb, pb, hb⟩ := hb.wk
  refine ⟨tOp (rIx c.K) ta tb, fun X h => pe_ix (by rw [← h.k]; exact ix_seq) (pa X h) (pb X h) hs, fun W own σ H env d env' Q ft G e q => ?_⟩
  obtain ⟨x, e1, y, h1, h2, h3⟩ := eB_some e
  exact two ft G ha hb h1 h2 fun v u H' x1 G' w1 w2 => p2_ix H' (Avd W own) v u x y d Q G'.trk w1.vw w2.vw h3 fun z H2 s r => q z H2 (x1.trans (Ex.same s)) (G'.same s) r
/-- a written place of the pot itself -/
theorem re_ixP {i : Nat} {x : Str} {px : Pos} {k : Int} {j pk} (hN : c.N[i]? = some x) (hv : c.sc.names.lookup x = some .local ∨ c.sc.names.lookup x = some .cell ∨ c.sc.names.lookup x = some .free) (hs : PlainIx (.Constant (.int k) j pk) := by intro _ _; rfl)
    (hd : (x == ("__debug__" : Str)) = false := by decide) (hcd : (x == ("__classdict__" : Str)) = false := by decide) :
    RE c (.Subscript (.Name x px) (.Constant (.int k) j pk) pos) (eB dIx (eV i) (eC (.int k))) := by
  refine ⟨tOp (rIx c.K) (tVar i) (tC (.int k)), fun X h => pe_ix (by rw [← h.k]; exact ix_seq) (pe_var (by rw [h.n]; exact hN) (by unfold Vis; rw [h.sc]; exact hv) hd hcd) pe_int hs, fun W own σ H env d env' Q ft G e q => ?_⟩
  obtain ⟨y, e1, z, h1, h2, h3⟩ := eB_some e
  obtain ⟨h1, rfl⟩ := eV_some h1
  cases h2
  have fin : ∀ v, Vw H (Avd W own) v y → rIx c.K v (.int k) H Q := fun v w => p2_ix H (Avd W own) v (.int k) y (.int k) d Q G.trk w (.inl (.int k)) h3 fun z H2 s r => q z H2 (Ex.same s) (G.same s) r
  by_cases hi : i ∈ own.map (·.1)
  · obtain ⟨p, hp, rfl⟩ := List.mem_map.mp hi
    obtain ⟨e2, d', e3, o⟩ := G.ow p hp
    rw [h1] at e3
    cases e3
    exact ⟨_, e2, fin _ (.inr ⟨p.2, rfl, o⟩)⟩
  · obtain ⟨v, e2, r⟩ := G.va i y h1 hi
    exact ⟨v, e2, fin v (.inl r)⟩
end
end Fw
set_option Elab.async false
set_option linter.all false
set_option maxRecDepth 100000
/-! Fw4: what a def promises; calls of own defs. -/
namespace Fw
open PySem PySem.Spec PyProof.Rows L2

/-! ### no list within -/
mutual
def noL : D → Bool
  | .list _ => false
  | .dict _ => false
  | .tuple xs => noLs xs
  | _ => true
def noLs : List D → Bool
  | [] => true
  | d :: ds => noL d && noLs ds
end
/-- a list of such -/
def noLc : D → Bool
  | .list xs => noLs xs
  | _ => false
def yes : D → Bool := fun _ => true
section
variable {H H' : Hp} {Av Av' : Addr → Prop}
mutual
theorem Va.noL (k : ∀ a, Av' a → Av a ∨ ∃ xs, H a = some (.lst xs)) : ∀ (d : D) (v : V), Fw.noL d = true → Va H Av v d → Va H Av' v d
  | .none, _, _, h => by cases h; exact .non
  | .bool b, _, _, h => by cases h; exact .bl b
  | .int i, _, _, h => by cases h; exact .int i
  | .str x, _, _, h => by cases h; exact .str x
  | .list ds, _, e, _ => by simp [Fw.noL] at e
  | .dict ds, _, e, _ => by simp [Fw.noL] at e
  | .tuple ds, _, e, h => by
    cases h with
    | tup r n w =>
      refine .tup r (fun z => ?_) (Vas.noL k ds _ (by simpa [Fw.noL] using e) w)
      rcases k _ z with z | ⟨xs, z⟩
      · exact n z
      · rcases r with r | ⟨o, r⟩
        · rw [z] at r; cases r
        · rw [z] at r; cases r
theorem Vas.noL (k : ∀ a, Av' a → Av a ∨ ∃ xs, H a = some (.lst xs)) : ∀ (ds : List D) (vs : List V), noLs ds = true → Vas H Av vs ds → Vas H Av' vs ds
  | [], _, _, h => by cases h; exact .nil
  | d :: ds, _, e, h => by
    cases h with
    | cons h1 h2 =>
      simp only [noLs, Bool.and_eq_true] at e
      exact .cons (Va.noL k d _ e.1 h1) (Vas.noL k ds _ e.2 h2)
end
end

/-! ### promises -/
def ResOk (new : Bool) (H H' : Hp) (Av : Addr → Prop) (v : V) (r : D) : Prop :=
  if new = true then ∃ p, v = .ref p ∧ H p = none ∧ Ow H' (fun a => Av a ∨ a = p) p r else Va H' Av v r
def spD (n : Nat) (new : Bool) (m : List D → Option (D × D)) : Sp := fun vs H Q _ => ∃ (Av : Addr → Prop) (ds : List D) (r z : D), True ∧ ds.length = n ∧ Trk H Av ∧ m ds = some (r, z) ∧ Vas H Av vs ds ∧
  ∀ v H', Same H H' → ResOk new H H' Av v r → Q v H'
/-- the first parameter is changed for the caller -/
def spP (n : Nat) (new : Bool) (m : List D → Option (D × D)) : Sp := fun vs H Q _ => ∃ (Av : Addr → Prop) (a : Addr) (ws : List V) (d : D) (ds : List D) (r d' : D), True ∧ vs = .ref a :: ws ∧ ds.length + 1 = n ∧ Trk H (fun b => Av b ∨ b = a) ∧
  (∀ b, Av b → b ≠ a) ∧ m (d :: ds) = some (r, d') ∧ Ow H (fun b => Av b ∨ b = a) a d ∧ Vas H (fun b => Av b ∨ b = a) ws ds ∧
  ∀ v H', (∀ b o, H b = some o → b ≠ a → H' b = some o) → Ow H' (fun b => Av b ∨ b = a) a d' → ResOk new H H' (fun b => Av b ∨ b = a) v r → Q v H'

/-- a def that may be called -/
structure Cal (c : Ctx) (x : Str) (sp : Sp) : Prop where
  ex : ∃ (f : Addr) (fd : FuncData) (ps : List Str) (j : Nat), FnG c.P c.w c.K c.mg c.base CX0 j f fd ps sp ∧ j ≤ c.k ∧ c.mg x = some (.ref f) ∧ PySem.W.keepIn c.K (.ref f) = true ∧ Binds c.K fd ps []

def eCall (g : D → Bool) (m : List D → Option (D × D)) (ma : AM) : EM := fun e => match ma e with
  | some (xs, e1) => match m xs with
    | some (r, _) => if g r = true then some (r, e1) else none
    | none => none
  | none => none
def eCallP (i : Nat) (g gp : D → Bool) (m : List D → Option (D × D)) (ma : AM) : EM := fun e => match ma e with
  | some (xs, e1) => match e1[i]? with
    | some (some d) => match m (d :: xs) with
      | some (r, d') => if g r = true ∧ gp d' = true then some (r, e1.set i (some d')) else none
      | none => none
    | _ => none
  | none => none

section
variable {c : Ctx} {e a b : Expr} {es : List Expr} {pos p : Pos} {x : Str} {n : Nat} {mr : AM} {g gp : D → Bool} {f : List D → Option (D × D)}
theorem eCall_some {env env' : Env} {d : D} (h : eCall g f mr env = some (d, env')) : ∃ xs z, mr env = some (xs, env') ∧ f xs = some (d, z) ∧ g d = true := by
  unfold eCall at h
  split at h
  · rename_i xs e1 h1
    split at h
    · rename_i r z h2
      split at h
      · rename_i h3
        cases h
        exact ⟨xs, z, h1, h2, h3⟩
      · cases h
    · cases h
  · cases h
theorem eCallP_some {i : Nat} {env env' : Env} {d : D} (h : eCallP i g gp f mr env = some (d, env')) : ∃ xs e1 d0 d', mr env = some (xs, e1) ∧ e1[i]? = some (some d0) ∧ f (d0 :: xs) = some (d, d') ∧ g d = true ∧ gp d' = true ∧ env' = e1.set i (some d') := by
  unfold eCallP at h
  split at h
  · rename_i xs e1 h1
    split at h
    · rename_i d0 h0
      split at h
      · rename_i r z h2
        split at h
        · rename_i h3
          cases h
          exact ⟨xs, e1, d0, z, h1, h0, h2, h3.1, h3.2, rfl⟩
        · cases h
      · cases h
    · cases h
  · cases h

/-- the rule that all calls share -/
theorem call_core {sp : Sp} (F : Cal c x sp) (hg : c.sc.names.lookup x = some .globalImplicit) {t : TA} (pa : ∀ X, InC c X → PA X (a :: es) t) (hdb : (x == ("__debug__" : Str)) = false)
    (he : ∀ env, starEach (a :: es) env = (false, eval a env) :: starEach es env) (hpl : ∀ env, (backTo pos (starEach es env)).any (·.1) = false) (X : Cx) (h : InC c X) :
    PE X (.Call (.Name x p) (a :: es) [] pos) (tCall sp [] E0 t) := by
  obtain ⟨fa, fd, ps, j, F, hj, hm, hk, hb⟩ := F.ex
  refine pe_callG (f := fa) (fd := fd) (ps := ps) (k := j) (CX := CX0) (ds := []) ?_ h.gd (h.room.mono hj) (by show X.env.scope.names.lookup x = _; rw [h.sc]; exact hg) (by rw [h.mg]; exact hm) (by rw [h.k]; exact hk) (by rw [h.k]; exact hb) .nil pass0 (pa X h) hdb (he _) (hpl _)
  rw [h.p, h.w, h.k, h.mg, h.base]
  exact F
/-- strong arguments -/
theorem re_call (F : Cal c x (spD n false f)) (hn : (a :: es).length = n) (ha : RAs c (a :: es) mr) (hg : c.sc.names.lookup x = some .globalImplicit := by rfl) (hdb : (x == ("__debug__" : Str)) = false := by decide)
    (he : ∀ env, starEach (a :: es) env = (false, eval a env) :: starEach es env := by intro _; rfl) (hpl : ∀ env, (backTo pos (starEach es env)).any (·.1) = false := by intro _; rfl)
    (hl : ∀ env ds env', mr env = some (ds, env') → ds.length = n) : RE c (.Call (.Name x p) (a :: es) [] pos) (eCall yes f mr) := by
  obtain ⟨ta, pa, ha⟩ := ha
  refine ⟨tCall (spD n false f) [] E0 ta, fun X h => call_core F hg pa hdb he hpl X h, fun W own σ H env d env' Q ft G e q => ?_⟩
  obtain ⟨xs, z, h1, h2, _⟩ := eCall_some e
  refine ha W own σ H env xs env' _ ft G h1 fun vs H' x1 G' w => ?_
  rw [List.append_nil]
  exact ⟨Avd W own, xs, d, z, trivial, hl _ _ _ h1, G'.trk, h2, w, fun v H2 s r => q v H2 (x1.trans (Ex.same s)) (G'.same s) r⟩
theorem rn_call (F : Cal c x (spD n true f)) (hn : (a :: es).length = n) (ha : RAs c (a :: es) mr) (hg : c.sc.names.lookup x = some .globalImplicit := by rfl) (hdb : (x == ("__debug__" : Str)) = false := by decide)
    (he : ∀ env, starEach (a :: es) env = (false, eval a env) :: starEach es env := by intro _; rfl) (hpl : ∀ env, (backTo pos (starEach es env)).any (·.1) = false := by intro _; rfl)
    (hl : ∀ env ds env', mr env = some (ds, env') → ds.length = n) : RN c (.Call (.Name x p) (a :: es) [] pos) (eCall yes f mr) := by
  obtain ⟨ta, pa, ha⟩ := ha
  refine ⟨tCall (spD n true f) [] E0 ta, fun X h => call_core F hg pa hdb he hpl X h, fun W own σ H env d env' Q ft G e q => ?_⟩
  obtain ⟨xs, z, h1, h2, _⟩ := eCall_some e
  refine ha W own σ H env xs env' _ ft G h1 fun vs H' x1 G' w => ?_
  rw [List.append_nil]
  refine ⟨Avd W own, xs, d, z, trivial, hl _ _ _ h1, G'.trk, h2, w, fun v H2 s r => ?_⟩
  obtain ⟨p, rfl, hp, ow⟩ := (show ∃ p, v = .ref p ∧ H' p = none ∧ Ow H2 (fun a => Avd W own a ∨ a = p) p d from by simpa [ResOk] using r)
  exact q p H2 (x1.trans (Ex.same s)) (Ex.new G' x1 hp) (G'.trk.new hp) ((G'.more hp).same s) ow

/-! ### arguments that are owned objects, lent -/
def Lent (W : Wd) (own : List (Nat × Addr)) (vs : List V) : Addr → Prop := fun a => Avd W own a ∧ V.ref a ∉ vs
theorem Wk.lent {W : Wd} {own : List (Nat × Addr)} {H : Hp} {v : V} {d : D} {vs : List V} (hv : v ∈ vs) (w : Wk W own H v d) : Va H (Lent W own vs) v d := by
  rcases w with w | ⟨p, hp, hn, rfl, xs, ds, e1, rfl, e3⟩
  · exact Va.to (fun a o e _ => e) (fun a o e n z => n z.1) _ _ w
  · exact .lst (.inl e1) (fun z => z.2 hv) (Vas.to (fun a o e _ => e) (fun a o e n z => n z.1) _ _ e3)
theorem Wks.lent {W : Wd} {own : List (Nat × Addr)} {H : Hp} {ws : List V} : ∀ {vs : List V} {ds : List D}, (∀ v ∈ vs, v ∈ ws) → Wks W own H vs ds → Vas H (Lent W own ws) vs ds
  | [], [], _, _ => .nil
  | v :: vs, d :: ds, hs, h => .cons (h.1.lent (hs v List.mem_cons_self)) (Wks.lent (fun v hv => hs v (List.mem_cons_of_mem _ hv)) h.2)
  | [], _ :: _, _, h => h.elim
  | _ :: _, [], _, h => h.elim
theorem Wks.len {W : Wd} {own : List (Nat × Addr)} {H : Hp} : ∀ {vs : List V} {ds : List D}, Wks W own H vs ds → vs.length = ds.length
  | [], [], _ => rfl
  | v :: vs, d :: ds, h => by rw [List.length_cons, List.length_cons, Wks.len h.2]
  | [], _ :: _, h => h.elim
  | _ :: _, [], h => h.elim
theorem Wks.mem {W : Wd} {own : List (Nat × Addr)} {H : Hp} {v : V} : ∀ {vs : List V} {ds : List D}, Wks W own H vs ds → v ∈ vs → ∃ d, Wk W own H v d
  | [], [], _, h => nomatch h
  | w :: vs, d :: ds, h, hv => by
    rcases List.mem_cons.mp hv with rfl | hv
    · exact ⟨d, h.1⟩
    · exact Wks.mem h.2 hv
  | [], _ :: _, h, _ => h.elim
  | _ :: _, [], h, _ => h.elim
/-- what the lent ones are: lists -/
theorem Lent.back {W : Wd} {own : List (Nat × Addr)} {σ : St} {H H' : Hp} {env env' : Env} {vs : List V} {ds : List D} (w : Wks W own H vs ds) (G' : Good W own σ H' env') : ∀ a, Avd W own a → Lent W own vs a ∨ ∃ xs, H' a = some (.lst xs) := fun a h => by
  by_cases hv : V.ref a ∈ vs
  · right
    obtain ⟨d, w⟩ := w.mem hv
    rcases w with w | ⟨p, hp, hn, e, _⟩
    · exact absurd h w.trk.2
    · cases e
      obtain ⟨_, d, _, xs, ds, e1, _⟩ := G'.ow p hp
      exact ⟨xs, e1⟩
  · exact .inl ⟨h, hv⟩
/-- an owned one is not what is avoided from the start -/
theorem Rel.avNo {W : Wd} {Av : Addr → Prop} {own : List (Nat × Addr)} {σ : St} {H : Hp} {env : Env} (R : Rel W Av own σ H env) {b : Addr} (hb : W.av b) {p : Nat × Addr} (hp : p ∈ own) : p.2 ≠ b := fun e => by
  obtain ⟨⟨o, ho⟩, hn⟩ := R.avt b hb
  rcases R.fr p hp with z | z
  · exact hn p.1 (by rw [z, ← e])
  · rw [e, ho] at z; cases z
theorem re_callW (F : Cal c x (spD n false f)) (ha : RA c (a :: es) mr) (hg : c.sc.names.lookup x = some .globalImplicit := by rfl) (hdb : (x == ("__debug__" : Str)) = false := by decide)
    (he : ∀ env, starEach (a :: es) env = (false, eval a env) :: starEach es env := by intro _; rfl) (hpl : ∀ env, (backTo pos (starEach es env)).any (·.1) = false := by intro _; rfl)
    (hl : ∀ env ds env', mr env = some (ds, env') → ds.length = n) : RE c (.Call (.Name x p) (a :: es) [] pos) (eCall noL f mr) := by
  obtain ⟨ta, pa, ha⟩ := ha
  refine ⟨tCall (spD n false f) [] E0 ta, fun X h => call_core F hg pa hdb he hpl X h, fun W own σ H env d env' Q ft G e q => ?_⟩
  obtain ⟨xs, z, h1, h2, h3⟩ := eCall_some e
  refine ha W own σ H env xs env' _ ft G h1 fun vs H' x1 G' w => ?_
  rw [List.append_nil]
  refine ⟨Lent W own vs, xs, d, z, trivial, hl _ _ _ h1, fun a h => G'.trk a h.1, h2, Wks.lent (fun _ h => h) w, fun v H2 s r => q v H2 (x1.trans (Ex.same s)) (G'.same s) ?_⟩
  exact Va.noL (Lent.back (env := env) w (G'.same s)) d v h3 r
theorem rn_callW (F : Cal c x (spD n true f)) (ha : RA c (a :: es) mr) (hg : c.sc.names.lookup x = some .globalImplicit := by rfl) (hdb : (x == ("__debug__" : Str)) = false := by decide)
    (he : ∀ env, starEach (a :: es) env = (false, eval a env) :: starEach es env := by intro _; rfl) (hpl : ∀ env, (backTo pos (starEach es env)).any (·.1) = false := by intro _; rfl)
    (hl : ∀ env ds env', mr env = some (ds, env') → ds.length = n) : RN c (.Call (.Name x p) (a :: es) [] pos) (eCall noLc f mr) := by
  obtain ⟨ta, pa, ha⟩ := ha
  refine ⟨tCall (spD n true f) [] E0 ta, fun X h => call_core F hg pa hdb he hpl X h, fun W own σ H env d env' Q ft G e q => ?_⟩
  obtain ⟨xs, z, h1, h2, h3⟩ := eCall_some e
  refine ha W own σ H env xs env' _ ft G h1 fun vs H' x1 G' w => ?_
  rw [List.append_nil]
  refine ⟨Lent W own vs, xs, d, z, trivial, hl _ _ _ h1, fun a h => G'.trk a h.1, h2, Wks.lent (fun _ h => h) w, fun v H2 s r => ?_⟩
  obtain ⟨p, rfl, hp, ys, ds, e1, rfl, e3⟩ := (show ∃ p, v = .ref p ∧ H' p = none ∧ Ow H2 (fun a => Lent W own vs a ∨ a = p) p d from by simpa [ResOk] using r)
  refine q p H2 (x1.trans (Ex.same s)) (Ex.new G' x1 hp) (G'.trk.new hp) ((G'.more hp).same s) ⟨ys, ds, e1, rfl, Vas.noL (fun a h => ?_) ds ys (by simpa [noLc] using h3) e3⟩
  rcases h with h | h
  · rcases Lent.back (env := env) w (G'.same s) a h with h | h
    · exact .inl (.inl h)
    · exact .inr h
  · exact .inl (.inr h)

/-! ### the pot as the first argument -/
theorem own_uniq {own : List (Nat × Addr)} (nd : (own.map (·.2)).Nodup) {p q : Nat × Addr} (hp : p ∈ own) (hq : q ∈ own) (e : p.2 = q.2) : p = q := by
  induction own with
  | nil => cases hp
  | cons a l ih =>
    rw [List.map_cons, List.nodup_cons] at nd
    rcases List.mem_cons.mp hp with h1 | h1
    · rcases List.mem_cons.mp hq with h2 | h2
      · rw [h1, h2]
      · exact absurd (List.mem_map.mpr ⟨q, h2, by rw [← e, h1]⟩) nd.1
    · rcases List.mem_cons.mp hq with h2 | h2
      · exact absurd (List.mem_map.mpr ⟨p, h1, by rw [e, h2]⟩) nd.1
      · exact ih nd.2 h1 h2
theorem slot_uniq {own : List (Nat × Addr)} (nd : (own.map (·.1)).Nodup) {p q : Nat × Addr} (hp : p ∈ own) (hq : q ∈ own) (e : p.1 = q.1) : p = q := by
  induction own with
  | nil => cases hp
  | cons a l ih =>
    rw [List.map_cons, List.nodup_cons] at nd
    rcases List.mem_cons.mp hp with h1 | h1
    · rcases List.mem_cons.mp hq with h2 | h2
      · rw [h1, h2]
      · exact absurd (List.mem_map.mpr ⟨q, h2, by rw [← e, h1]⟩) nd.1
    · rcases List.mem_cons.mp hq with h2 | h2
      · exact absurd (List.mem_map.mpr ⟨p, h1, by rw [e, h2]⟩) nd.1
      · exact ih nd.2 h1 h2
/-- the pot was changed, all else stands -/
theorem Rel.pot {W : Wd} {own : List (Nat × Addr)} {σ : St} {H H' : Hp} {env : Env} {i : Nat} {a : Addr} {d' : D} (G : Good W own σ H env) (hp : W.pot = some (i, a))
    (k : ∀ b o, H b = some o → b ≠ a → H' b = some o) (ow : Ow H' (Avd W own) a d') : Good W own σ H' (env.set i (some d')) := by
  have hin := G.pin _ hp
  have hav : ∀ b, Avd W own b → Avd W own b := fun _ h => h
  have ha : Avd W own a := .inr (List.mem_map.mpr ⟨(i, a), hin, rfl⟩)
  have hi : i < env.length := by
    rw [G.len]
    obtain ⟨e, _⟩ := G.ow _ hin
    exact (List.getElem?_eq_some_iff.mp e).1
  refine ⟨by rw [List.length_set]; exact G.len, G.ns, G.na, fun q hq => ?_, fun j d e n => ?_, fun b o e n => ?_, G.fr, G.pin, G.avt, G.sub, G.osub, fun b hb => ?_, fun j hj dj ej => ?_⟩
  · obtain ⟨e1, d, e2, o⟩ := G.ow q hq
    by_cases hq' : q = (i, a)
    · subst hq'
      exact ⟨e1, d', by rw [List.getElem?_set_self hi], ow⟩
    · have n1 : i ≠ q.1 := fun z => hq' (slot_uniq G.ns hq hin z.symm)
      have n2 : q.2 ≠ a := fun z => hq' (own_uniq G.na hq hin z)
      obtain ⟨xs, ds, f1, f2, f3⟩ := o
      exact ⟨e1, d, by rw [List.getElem?_set_ne n1]; exact e2, xs, ds, k _ _ f1 n2, f2, Vas.to (fun b o e n => k b o e fun z => n (z ▸ ha)) (fun _ _ _ n => n) _ _ f3⟩
  · have n1 : i ≠ j := fun z => n (List.mem_map.mpr ⟨(i, a), hin, z⟩)
    rw [List.getElem?_set_ne n1] at e
    obtain ⟨v, e1, e2⟩ := G.va j d e n
    exact ⟨v, e1, Va.to (fun b o e n => k b o e fun z => n (z ▸ ha)) (fun _ _ _ n => n) _ _ e2⟩
  · exact k b o (G.keep b o e n) fun z => n i (z ▸ hp)
  · obtain ⟨⟨o, e⟩, r⟩ := G.xt b hb
    exact ⟨⟨o, k b o e fun z => r.1 i (z ▸ hp)⟩, r⟩
  · by_cases n1 : i = j
    · subst n1
      exact List.mem_map.mpr ⟨(i, a), hin, rfl⟩
    · rw [List.getElem?_set_ne n1] at ej
      exact G.oall j hj dj ej

variable {i : Nat} {px : Pos} {y : Str}
theorem callP_core {new : Bool} (F : Cal c x (spP n new f)) (hN : c.N[i]? = some y) (hv : c.sc.names.lookup y = some .local ∨ c.sc.names.lookup y = some .cell ∨ c.sc.names.lookup y = some .free) (hpw : c.pw = some i) {tr : TA}
    (hd : (y == ("__debug__" : Str)) = false) (hcd : (y == ("__classdict__" : Str)) = false) (pr : ∀ X, InC c X → PA X es tr) (hs : ∀ env, starEach (.Name y px :: es) env = (false, eval (.Name y px) env) :: starEach es env) (X : Cx) (h : InC c X) :
    PA X (.Name y px :: es) (tCons (tVar i) tr) := pa_cons (pe_var (by rw [h.n]; exact hN) (by unfold Vis; rw [h.sc]; exact hv) hd hcd) (pr X h) (hs _)
theorem pot_av {W : Wd} {own : List (Nat × Addr)} {σ : St} {H : Hp} {env : Env} {a : Addr} (G : Good W own σ H env) (hp : W.pot = some (i, a)) : ∀ b, Avd W own b ↔ ((Avd W own b ∧ b ≠ a) ∨ b = a) := fun b => by
  constructor
  · intro h
    by_cases e : b = a
    · exact .inr e
    · exact .inl ⟨h, e⟩
  · rintro (h | rfl)
    · exact h.1
    · exact G.potAv _ _ hp
theorem Ow.av {H : Hp} {Av Av' : Addr → Prop} {a : Addr} {d : D} (k : ∀ b, Av' b → Av b) (h : Ow H Av a d) : Ow H Av' a d := by
  obtain ⟨xs, ds, e1, e2, e3⟩ := h
  exact ⟨xs, ds, e1, e2, Vas.to (fun a o e _ => e) (fun a o e n z => n (k a z)) _ _ e3⟩
theorem Va.av {H : Hp} {Av Av' : Addr → Prop} {v : V} {d : D} (k : ∀ b, Av' b → Av b) (h : Va H Av v d) : Va H Av' v d :=
  Va.to (fun a o e _ => e) (fun a o e n z => n (k a z)) _ _ h
theorem Vas.av {H : Hp} {Av Av' : Addr → Prop} {v : List V} {d : List D} (k : ∀ b, Av' b → Av b) (h : Vas H Av v d) : Vas H Av' v d :=
  Vas.to (fun a o e _ => e) (fun a o e n z => n (k a z)) _ _ h
theorem fit_pot {W : Wd} (hpw : c.pw = some i) (ft : Fit c W) : ∃ a, W.pot = some (i, a) := by
  have h := ft.1
  rw [hpw] at h
  cases z : W.pot with
  | none => rw [z] at h; cases h
  | some q =>
    rw [z] at h
    obtain ⟨j, a⟩ := q
    have : j = i := Option.some.inj h
    subst this
    exact ⟨a, rfl⟩
/-- strong arguments -/
theorem re_callP (F : Cal c x (spP (n + 1) false f)) (hN : c.N[i]? = some y) (hv : c.sc.names.lookup y = some .local ∨ c.sc.names.lookup y = some .cell ∨ c.sc.names.lookup y = some .free) (hpw : c.pw = some i) (ha : RAs c es mr)
    (hl : ∀ env ds env', mr env = some (ds, env') → ds.length = n) (hg : c.sc.names.lookup x = some .globalImplicit := by rfl) (hdb : (x == ("__debug__" : Str)) = false := by decide) (hd : (y == ("__debug__" : Str)) = false := by decide) (hcd : (y == ("__classdict__" : Str)) = false := by decide)
    (he : ∀ env, starEach (.Name y px :: es) env = (false, eval (.Name y px) env) :: starEach es env := by intro _; rfl) (hpl : ∀ env, (backTo pos (starEach es env)).any (·.1) = false := by intro _; rfl) :
    RE c (.Call (.Name x p) (.Name y px :: es) [] pos) (eCallP i yes yes f mr) := by
  obtain ⟨ta, pa, ha⟩ := ha
  refine ⟨tCall (spP (n + 1) false f) [] E0 (tCons (tVar i) ta), fun X h => call_core F hg (callP_core F hN hv hpw hd hcd pa he) hdb he hpl X h, fun W own σ H env d env' Q ft G e q => ?_⟩
  obtain ⟨xs, e1, d0, d', h1, h0, h2, _, _, rfl⟩ := eCallP_some e
  obtain ⟨a, hp⟩ := fit_pot hpw ft
  refine ⟨.ref a, (G.ow _ (G.pin _ hp)).1, ?_⟩
  refine ha W own σ H env xs e1 _ ft G h1 fun vs H' x1 G' w => ?_
  show spP (n + 1) false f ((V.ref a :: vs) ++ []) H' Q E0
  rw [List.append_nil]
  obtain ⟨_, d1, f1, ow⟩ := G'.ow _ (G'.pin _ hp)
  rw [h0] at f1
  cases f1
  have av := pot_av G' hp
  refine ⟨fun b => Avd W own b ∧ b ≠ a, a, vs, d0, xs, d, d', trivial, rfl, by rw [hl _ _ _ h1], fun b h => G'.trk b ((av b).mpr h), fun b h => h.2, h2, ow.av fun b h => (av b).mpr h, w.av fun b h => (av b).mpr h, fun v H2 k o2 r => ?_⟩
  have x2 : Ex W H' H2 := fun b o e n => k b o e fun z => n i (z ▸ hp)
  exact q v H2 (x1.trans x2) (G'.pot hp k (o2.av fun b h => (av b).mp h)) (Va.av (fun b h => (av b).mp h) (show Va H2 _ v d from by simpa [ResOk] using r))
/-- arguments lent: the answer and the pot hold no list -/
theorem re_callPW (F : Cal c x (spP (n + 1) false f)) (hN : c.N[i]? = some y) (hv : c.sc.names.lookup y = some .local ∨ c.sc.names.lookup y = some .cell ∨ c.sc.names.lookup y = some .free) (hpw : c.pw = some i) (ha : RA c es mr)
    (hl : ∀ env ds env', mr env = some (ds, env') → ds.length = n) (hg : c.sc.names.lookup x = some .globalImplicit := by rfl) (hdb : (x == ("__debug__" : Str)) = false := by decide) (hd : (y == ("__debug__" : Str)) = false := by decide) (hcd : (y == ("__classdict__" : Str)) = false := by decide)
    (he : ∀ env, starEach (.Name y px :: es) env = (false, eval (.Name y px) env) :: starEach es env := by intro _; rfl) (hpl : ∀ env, (backTo pos (starEach es env)).any (·.1) = false := by intro _; rfl) :
    RE c (.Call (.Name x p) (.Name y px :: es) [] pos) (eCallP i noL noLc f mr) := by
  obtain ⟨ta, pa, ha⟩ := ha
  refine ⟨tCall (spP (n + 1) false f) [] E0 (tCons (tVar i) ta), fun X h => call_core F hg (callP_core F hN hv hpw hd hcd pa he) hdb he hpl X h, fun W own σ H env d env' Q ft G e q => ?_⟩
  obtain ⟨xs, e1, d0, d', h1, h0, h2, hn, hn', rfl⟩ := eCallP_some e
  obtain ⟨a, hp⟩ := fit_pot hpw ft
  refine ⟨.ref a, (G.ow _ (G.pin _ hp)).1, ?_⟩
  refine ha W own σ H env xs e1 _ ft G h1 fun vs H' x1 G' w => ?_
  show spP (n + 1) false f ((V.ref a :: vs) ++ []) H' Q E0
  rw [List.append_nil]
  obtain ⟨_, d1, f1, ow⟩ := G'.ow _ (G'.pin _ hp)
  rw [h0] at f1
  cases f1
  have hav : V.ref a ∉ vs := fun z => by
    obtain ⟨dz, wz⟩ := w.mem z
    rcases wz with wz | ⟨q, hq, hqn, e, _⟩
    · exact wz.trk.2 (G'.potAv _ _ hp)
    · injection e with e
      exact hqn (by rw [hp, own_uniq G'.na (G'.pin _ hp) hq e])
  have sub : ∀ b, ((Lent W own vs b ∧ b ≠ a) ∨ b = a) → Avd W own b := fun b h => by
    rcases h with h | rfl
    · exact h.1.1
    · exact G'.potAv _ _ hp
  have sub2 : ∀ b, ((Lent W own vs b ∧ b ≠ a) ∨ b = a) → Lent W own vs b := fun b h => by
    rcases h with h | rfl
    · exact h.1
    · exact ⟨G'.potAv _ _ hp, hav⟩
  refine ⟨fun b => Lent W own vs b ∧ b ≠ a, a, vs, d0, xs, d, d', trivial, rfl, by rw [hl _ _ _ h1], fun b h => G'.trk b (sub b h), fun b h => h.2, h2, ow.av sub, (Wks.lent (fun _ h => h) w).av sub2, fun v H2 k o2 r => ?_⟩
  have x2 : Ex W H' H2 := fun b o e n => k b o e fun z => n i (z ▸ hp)
  have back : ∀ b, Avd W own b → ((Lent W own vs b ∧ b ≠ a) ∨ b = a) ∨ ∃ xs, H2 b = some (.lst xs) := fun b h => by
    by_cases hb : b = a
    · exact .inl (.inr hb)
    · by_cases hbv : V.ref b ∈ vs
      · right
        obtain ⟨dz, wz⟩ := w.mem hbv
        rcases wz with wz | ⟨q, hq, hqn, e, _⟩
        · exact absurd h wz.trk.2
        · injection e with e
          obtain ⟨_, _, _, ys, _, g1, _⟩ := G'.ow q hq
          rw [← e] at g1
          exact ⟨ys, k _ _ g1 hb⟩
      · exact .inl (.inl ⟨⟨h, hbv⟩, hb⟩)
  obtain ⟨ys, es', g1, rfl, g3⟩ := o2
  exact q v H2 (x1.trans x2) (G'.pot hp k ⟨ys, es', g1, rfl, Vas.noL back es' ys (by simpa [noLc] using hn') g3⟩) (Va.noL back d v hn (show Va H2 _ v d from by simpa [ResOk] using r))
/-- a promise of a new object is one of a value -/
theorem ResOk.val {H H' : Hp} {Av : Addr → Prop} {v : V} {r : D} (t : Trk H Av) (h : ResOk true H H' Av v r) : ResOk false H H' Av v r := by
  obtain ⟨p, rfl, hp, ys, ds, e1, rfl, e3⟩ := (show ∃ p, v = .ref p ∧ H p = none ∧ Ow H' (fun a => Av a ∨ a = p) p r from by simpa [ResOk] using h)
  show (if false = true then _ else _)
  rw [if_neg Bool.false_ne_true]
  exact .lst (.inl e1) (t.new hp) (e3.av fun _ h => .inl h)
theorem Cal.val (F : Cal c x (spD n true f)) : Cal c x (spD n false f) := by
  obtain ⟨fa, fd, ps, j, F, r⟩ := F.ex
  refine ⟨fa, fd, ps, j, F.imp fun vs H Q E h => ?_, r⟩
  obtain ⟨Av, ds, r, z, h0, h1, h2, h3, h4, h5⟩ := h
  exact ⟨Av, ds, r, z, h0, h1, h2, h3, h4, fun v H' s o => h5 v H' s (o.val h2)⟩
theorem Cal.valP (F : Cal c x (spP n true f)) : Cal c x (spP n false f) := by
  obtain ⟨fa, fd, ps, j, F, r⟩ := F.ex
  refine ⟨fa, fd, ps, j, F.imp fun vs H Q E h => ?_, r⟩
  obtain ⟨Av, a, ws, d, ds, r, d', hs, h0, h1, h2, h3, h4, h5, h6, h7⟩ := h
  exact ⟨Av, a, ws, d, ds, r, d', hs, h0, h1, h2, h3, h4, h5, h6, fun v H' s o o2 => h7 v H' s o (o2.val h2)⟩
/-- a new pot, of which nothing is kept -/
def eCallN (g : D → Bool) (m : List D → Option (D × D)) (mp : EM) : EM := fun e => match mp e with
  | some (d, e1) => match m [d] with
    | some (r, _) => if g r = true then some (r, e1) else none
    | none => none
  | none => none
theorem re_callN {mp : EM} (F : Cal c x (spP 1 false f)) (ha : RN c a mp) (hg : c.sc.names.lookup x = some .globalImplicit := by rfl) (hdb : (x == ("__debug__" : Str)) = false := by decide)
    (he : ∀ env, starEach [a] env = [(false, eval a env)] := by intro _; rfl) : RE c (.Call (.Name x p) [a] [] pos) (eCallN noL f mp) := by
  obtain ⟨ta, pa, ha⟩ := ha
  refine ⟨tCall (spP 1 false f) [] E0 (tCons ta tNil), fun X h => call_core F hg (fun X h => pa_cons (pa X h) pa_nil (by rw [he]; rfl)) hdb (fun env => by rw [he]; rfl) (fun env => by rfl) X h, fun W own σ H env d env' Q ft G e q => ?_⟩
  unfold eCallN at e
  split at e
  · rename_i d0 e1 h1
    split at e
    · rename_i r z h2
      split at e
      · rename_i h3
        cases e
        refine ha W own σ H env d0 _ _ ft G h1 fun p H' x1 hp hnp R ow => ?_
        have G' : Good W own σ H' _ := R.less (fun _ h => h) fun _ h => .inl h
        have fr : ∃ xs, H' p = some (.lst xs) := by
          obtain ⟨xs, ds, e1, _⟩ := ow
          exact ⟨xs, e1⟩
        refine ⟨fun b => Avd W own b, p, [], d0, [], d, z, trivial, rfl, rfl, fun b h => ?_, fun b h z => hnp (z ▸ h), h2, ow, .nil, fun v H2 k o2 r => ?_⟩
        · rcases h with h | rfl
          · exact G'.trk b h
          · obtain ⟨xs, e⟩ := fr
            exact ⟨_, e⟩
        have keep : ∀ b o, H b = some o → (∀ i, W.pot ≠ some (i, b)) → H2 b = some o := fun b o e n => k b o (x1 b o e n) fun z => by rw [z, hp] at e; cases e
        have keep2 : ∀ b o, H' b = some o → b ≠ p → H2 b = some o := k
        have back : ∀ b, Avd W own b → (Avd W own b ∨ b = p) ∨ ∃ xs, H2 b = some (.lst xs) := fun b h => .inl (.inl h)
        refine q v H2 keep ?_ (Va.noL back d v h3 (show Va H2 _ v d from by simpa [ResOk] using r))
        refine ⟨R.len, R.ns, R.na, fun z hz => ?_, fun j dj ej nj => ?_, fun b o e n => k b o (R.keep b o e n) fun z => ?_, R.fr, R.pin, R.avt, fun _ h => h, R.osub, fun b hb => ?_, R.oall⟩
        · obtain ⟨f1, dz, f2, xs', ds', f3, f4, f5⟩ := R.ow z hz
          have hzp : z.2 ≠ p := fun e => hnp (e ▸ .inr (List.mem_map.mpr ⟨z, hz, rfl⟩))
          exact ⟨f1, dz, f2, xs', ds', k _ _ f3 hzp, f4, Vas.to (fun b o e n => k b o e fun z => n (.inr z)) (fun b o e n z => n (.inl z)) _ _ f5⟩
        · obtain ⟨v', f1, f2⟩ := R.va j dj ej nj
          exact ⟨v', f1, Va.to (fun b o e n => k b o e fun z => n (.inr z)) (fun b o e n z => n (.inl z)) _ _ f2⟩
        · have := G.keep b o e n
          rw [z, hp] at this; cases this
        · obtain ⟨⟨o, e⟩, r⟩ := R.xt b hb
          exact ⟨⟨o, k b o e fun z => hnp (z ▸ .inl (.inr hb))⟩, r⟩
      · cases e
    · cases e
  · cases e
end
end Fw
set_option Elab.async false
set_option linter.all false
set_option maxRecDepth 100000
/-! Fw5: statements, a def's promise by its body. -/
namespace Fw
open PySem PySem.Spec PyProof.Rows L2

/-- what is not owned stays and is not owned later; what is owned at the slots fb stays as it is -/
structure Fr (fb : List Nat) (own own' : List (Nat × Addr)) (H H' : Hp) : Prop where
  out : ∀ b o, H b = some o → b ∉ own.map (·.2) → H' b = some o ∧ b ∉ own'.map (·.2)
  lk : ∀ p ∈ own, p.1 ∈ fb → p ∈ own' ∧ H' p.2 = H p.2
theorem Fr.refl {fb : List Nat} {own : List (Nat × Addr)} {H : Hp} : Fr fb own own H H := ⟨fun _ _ e n => ⟨e, n⟩, fun _ h _ => ⟨h, rfl⟩⟩
theorem Fr.trans {fb : List Nat} {own own1 own2 : List (Nat × Addr)} {H H1 H2 : Hp} (a : Fr fb own own1 H H1) (b : Fr fb own1 own2 H1 H2) : Fr fb own own2 H H2 :=
  ⟨fun x o e n => b.out x o (a.out x o e n).1 (a.out x o e n).2, fun p hp hf => by
    obtain ⟨h1, e1⟩ := a.lk p hp hf
    obtain ⟨h2, e2⟩ := b.lk p h1 hf
    exact ⟨h2, e2.trans e1⟩⟩
theorem Fr.weak {fb fb' : List Nat} {own own' : List (Nat × Addr)} {H H' : Hp} (a : Fr fb own own' H H') (h : ∀ i ∈ fb', i ∈ fb) : Fr fb' own own' H H' := ⟨a.out, fun p hp hf => a.lk p hp (h _ hf)⟩
/-- an expression was run -/
theorem Ex.fr {c : Ctx} {fb : List Nat} {W : Wd} {own : List (Nat × Addr)} {σ : St} {H H' : Hp} {env : Env} (ft : Fit c W) (G : Good W own σ H env) (x : Ex W H H') (hfb : ∀ i, c.pw = some i → i ∉ fb) : Fr fb own own H H' := by
  refine ⟨fun b o e n => ⟨x b o e fun i z => n (List.mem_map.mpr ⟨(i, b), G.pin _ z, rfl⟩), n⟩, fun p hp hf => ⟨hp, ?_⟩⟩
  obtain ⟨_, d, _, xs, ds, e, _⟩ := G.ow p hp
  rw [e]
  refine x _ _ e fun i z => ?_
  have e1 : p = (i, p.2) := own_uniq G.na hp (G.pin _ z) rfl
  have e2 : p.1 = i := congrArg Prod.fst e1
  exact hfb i (by rw [← ft.1, z]; rfl) (e2 ▸ hf)

/-- what a def hands back: nobody else has it (new), or it is data -/
def RetV (new : Bool) (W : Wd) (H' : Hp) (v : V) (d : D) : Prop :=
  if new = true then ∃ p, v = .ref p ∧ W.H0 p = none ∧ (∀ i, W.pot ≠ some (i, p)) ∧ Ow H' (fun a => (W.av a ∨ ∃ i, W.pot = some (i, a)) ∨ a = p) p d
  else Va H' (fun a => W.av a ∨ ∃ i, W.pot = some (i, a)) v d
def SPost (fb : List Nat) (new : Bool) (W : Wd) (own : List (Nat × Addr)) (H : Hp) (D : Ends) : Fl → Env → Prop
  | .nx, env' => ∀ own' σ' H', Good W own' σ' H' env' → Fr fb own own' H H' → D.nx σ' H'
  | .bk, env' => ∀ own' σ' H', Good W own' σ' H' env' → Fr fb own own' H H' → D.bk σ' H'
  | .ct, env' => ∀ own' σ' H', Good W own' σ' H' env' → Fr fb own own' H H' → D.ct σ' H'
  | .rt d, env' => ∀ v Av' own' σ' H', Rel W Av' own' σ' H' env' → RetV new W H' v d → D.rt v H'
def RS (c : Ctx) (new : Bool) (fb : List Nat) (st : Stmt) (m : SM) : Prop :=
  ∃ t : TS, (∀ X, InC c X → PS X st t) ∧ ∀ (W : Wd) (own : List (Nat × Addr)) (σ : St) (H : Hp) (env : Env) (fl : Fl) (env' : Env) (D : Ends), Fit c W → Good W own σ H env → m env = some (fl, env') →
    SPost fb new W own H D fl env' → t D σ H
def RSs (c : Ctx) (new : Bool) (fb : List Nat) (st : List Stmt) (m : SM) : Prop :=
  ∃ t : TS, (∀ X, InC c X → PSs X st t) ∧ ∀ (W : Wd) (own : List (Nat × Addr)) (σ : St) (H : Hp) (env : Env) (fl : Fl) (env' : Env) (D : Ends), Fit c W → Good W own σ H env → m env = some (fl, env') →
    SPost fb new W own H D fl env' → t D σ H

def sNx : SM := fun e => some (.nx, e)
def sNo : SM := fun _ => none
def sSeq (a b : SM) : SM := fun e => match a e with
  | some (.nx, e1) => b e1
  | r => r
def sIf (t : BM) (a b : SM) : SM := fun e => match t e with
  | some (true, e1) => a e1
  | some (false, e1) => b e1
  | none => none
def sRet (m : EM) : SM := fun e => match m e with
  | some (d, e1) => some (.rt d, e1)
  | none => none
def sRetN : SM := fun e => some (.rt .none, e)
def sSet (i : Nat) (m : EM) : SM := fun e => match m e with
  | some (d, e1) => some (.nx, e1.set i (some d))
  | none => none
def sDrop (m : EM) : SM := fun e => match m e with
  | some (_, e1) => some (.nx, e1)
  | none => none
def sBk : SM := fun e => some (.bk, e)
def sCt : SM := fun e => some (.ct, e)

section
variable {W : Wd} {own : List (Nat × Addr)} {σ : St} {H H' : Hp} {env : Env} {Av : Addr → Prop}
/-- a value is stored at a slot that is no owner's -/
theorem Rel.set {i : Nat} {v : V} {d : D} (R : Good W own σ H env) (hi : i ∉ W.os) (w : Va H (Avd W own) v d) : Good W own (σ.set i (some v)) H (env.set i (some d)) := by
  have hn : i ∉ own.map (·.1) := fun z => by
    obtain ⟨p, hp, rfl⟩ := List.mem_map.mp z
    exact hi (R.osub p hp)
  refine ⟨by rw [List.length_set, List.length_set]; exact R.len, R.ns, R.na, fun p hp => ?_, fun j dj ej nj => ?_, R.keep, R.fr, R.pin, R.avt, R.sub, R.osub, R.xt, fun j hj dj ej => ?_⟩
  · have hp1 : i ≠ p.1 := fun z => hi (z ▸ R.osub p hp)
    obtain ⟨e1, d', e2, o⟩ := R.ow p hp
    exact ⟨by rw [List.getElem?_set_ne hp1]; exact e1, d', by rw [List.getElem?_set_ne hp1]; exact e2, o⟩
  · by_cases hj : i = j
    · subst hj
      have hl : i < env.length := by
        by_cases h : i < env.length
        · exact h
        · rw [List.getElem?_eq_none (by simpa using h)] at ej; cases ej
      rw [List.getElem?_set_self hl] at ej
      cases ej
      exact ⟨v, by rw [List.getElem?_set_self (by rw [← R.len]; exact hl)], w⟩
    · rw [List.getElem?_set_ne hj] at ej
      obtain ⟨v', e1, e2⟩ := R.va j dj ej nj
      exact ⟨v', by rw [List.getElem?_set_ne hj]; exact e1, e2⟩
  · by_cases hij : i = j
    · subst hij; exact absurd hj hi
    · rw [List.getElem?_set_ne hij] at ej
      exact R.oall j hj dj ej
/-- a new object is stored at an owner's slot -/
theorem Rel.adopt {i : Nat} {p : Addr} {d : D} (R : Rel W (fun a => Avd W own a ∨ a = p) own σ H env) (hi : i ∈ W.os) (hw : ∀ a, W.pot ≠ some (i, a)) (hl : i < env.length) (h0 : W.H0 p = none) (hp : ¬ Avd W own p) (o : Ow H (fun a => Avd W own a ∨ a = p) p d) :
    Good W ((i, p) :: own.filter (fun q => q.1 ≠ i)) (σ.set i (some (.ref p))) H (env.set i (some d)) := by
  have sub : ∀ a, Avd W ((i, p) :: own.filter (fun q => q.1 ≠ i)) a → Avd W own a ∨ a = p := fun a h => by
    rcases h with h | h
    · exact .inl (.inl h)
    · rw [List.map_cons] at h
      rcases List.mem_cons.mp h with h | h
      · exact .inr h
      · obtain ⟨q, hq, rfl⟩ := List.mem_map.mp h
        exact .inl (.inr (List.mem_map.mpr ⟨q, (List.mem_filter.mp hq).1, rfl⟩))
  have fl : ∀ q ∈ own.filter (fun q => q.1 ≠ i), q ∈ own ∧ q.1 ≠ i := fun q hq => by
    obtain ⟨h1, h2⟩ := List.mem_filter.mp hq
    exact ⟨h1, by simpa using h2⟩
  refine ⟨by rw [List.length_set, List.length_set]; exact R.len, ?_, ?_, fun q hq => ?_, fun j dj ej nj => ?_, R.keep, fun q hq => ?_, fun q hq => ?_, R.avt, fun _ h => h, fun q hq => ?_, fun b hb => ?_, fun j hj dj ej => ?_⟩
  · rw [List.map_cons, List.nodup_cons]
    refine ⟨fun z => ?_, R.ns.sublist (List.filter_sublist.map _)⟩
    obtain ⟨q, hq, e⟩ := List.mem_map.mp z
    exact (fl q hq).2 e
  · rw [List.map_cons, List.nodup_cons]
    refine ⟨fun z => ?_, R.na.sublist (List.filter_sublist.map _)⟩
    obtain ⟨q, hq, e⟩ := List.mem_map.mp z
    exact hp (.inr (List.mem_map.mpr ⟨q, (fl q hq).1, e⟩))
  · rcases List.mem_cons.mp hq with rfl | hq
    · exact ⟨List.getElem?_set_self (by rw [← R.len]; exact hl), d, List.getElem?_set_self hl, o.av sub⟩
    · obtain ⟨h1, h2⟩ := fl q hq
      obtain ⟨e1, d', e2, o'⟩ := R.ow q h1
      exact ⟨by rw [List.getElem?_set_ne (Ne.symm h2)]; exact e1, d', by rw [List.getElem?_set_ne (Ne.symm h2)]; exact e2, o'.av sub⟩
  · have hj : i ≠ j := fun z => nj (by rw [List.map_cons, z]; exact List.mem_cons_self)
    rw [List.getElem?_set_ne hj] at ej
    have nj' : j ∉ own.map (·.1) := fun z => by
      obtain ⟨q, hq, rfl⟩ := List.mem_map.mp z
      exact nj (by rw [List.map_cons]; exact List.mem_cons_of_mem _ (List.mem_map.mpr ⟨q, List.mem_filter.mpr ⟨hq, by simpa using Ne.symm hj⟩, rfl⟩))
    obtain ⟨v', e1, e2⟩ := R.va j dj ej nj'
    exact ⟨v', by rw [List.getElem?_set_ne hj]; exact e1, e2.av sub⟩
  · rcases List.mem_cons.mp hq with rfl | hq
    · exact .inr h0
    · exact R.fr q (fl q hq).1
  · refine List.mem_cons_of_mem _ (List.mem_filter.mpr ⟨R.pin q hq, ?_⟩)
    have : q.1 ≠ i := fun z => hw q.2 (by rw [hq, ← z])
    simpa using this
  · rcases List.mem_cons.mp hq with rfl | hq
    · exact hi
    · exact R.osub q (fl q hq).1
  · obtain ⟨h1, h2, h3, h4⟩ := R.xt b hb
    refine ⟨h1, h2, fun z => ?_, h4⟩
    rw [List.map_cons] at z
    rcases List.mem_cons.mp z with z | z
    · have z' : b = p := z
      rw [z'] at hb
      exact hp (.inl (.inr hb))
    · obtain ⟨q, hq, e⟩ := List.mem_map.mp z
      exact h3 (List.mem_map.mpr ⟨q, (fl q hq).1, e⟩)
  · by_cases hij : i = j
    · rw [List.map_cons, hij]; exact List.mem_cons_self
    · rw [List.getElem?_set_ne hij] at ej
      obtain ⟨q, hq, rfl⟩ := List.mem_map.mp (R.oall j hj dj ej)
      rw [List.map_cons]
      exact List.mem_cons_of_mem _ (List.mem_map.mpr ⟨q, List.mem_filter.mpr ⟨hq, by simpa using Ne.symm hij⟩, rfl⟩)
end

section
variable {c : Ctx} {new : Bool} {fb : List Nat} {st : Stmt} {rest : List Stmt} {e a b : Expr} {pos : Pos} {m : EM} {ms mr : SM} {bt : BM}
theorem rss_nil : RSs c new fb [] sNx := ⟨tNext, fun _ _ => pss_nil, fun W own σ H env fl env' D ft G e q => by cases e; exact q own σ H G Fr.refl⟩
theorem rss_cons (h1 : RS c new fb st ms) (h2 : RSs c new fb rest mr) : RSs c new fb (st :: rest) (sSeq ms mr) := by
  obtain ⟨t1, p1, h1⟩ := h1
  obtain ⟨t2, p2, h2⟩ := h2
  refine ⟨tSeq t1 t2, fun X h => pss_cons (p1 X h) (p2 X h), fun W own σ H env fl env' D ft G e q => ?_⟩
  unfold sSeq at e
  split at e
  · rename_i e1 he
    exact h1 W own σ H env .nx e1 _ ft G he fun own1 σ1 H1 G1 f1 => h2 W own1 σ1 H1 e1 fl env' D ft G1 e (by
      cases fl with
      | nx => exact fun own2 σ2 H2 G2 f2 => q own2 σ2 H2 G2 (f1.trans f2)
      | bk => exact fun own2 σ2 H2 G2 f2 => q own2 σ2 H2 G2 (f1.trans f2)
      | ct => exact fun own2 σ2 H2 G2 f2 => q own2 σ2 H2 G2 (f1.trans f2)
      | rt d => exact q)
  · rename_i hne
    refine h1 W own σ H env fl env' _ ft G e ?_
    cases fl with
    | nx => exact absurd e (hne env')
    | bk => exact q
    | ct => exact q
    | rt d => exact q
theorem rss_one (h1 : RS c new fb st ms) : RSs c new fb [st] ms := by
  obtain ⟨t1, p1, h1⟩ := h1
  exact ⟨t1, fun X h => pss_one (p1 X h), h1⟩
theorem rs_pass : RS c new fb (.Pass pos) sNx := ⟨tNext, fun _ _ => ps_pass, fun W own σ H env fl env' D ft G e q => by cases e; exact q own σ H G Fr.refl⟩
theorem rs_doc {x j pos'} : RS c new fb (.Expr (.Constant (.str x) j pos) pos') sNx := ⟨tNext, fun _ _ => ps_doc, fun W own σ H env fl env' D ft G e q => by cases e; exact q own σ H G Fr.refl⟩
theorem rs_break : RS c new fb (.Break pos) sBk := ⟨tBreak, fun _ _ => ps_break, fun W own σ H env fl env' D ft G e q => by cases e; exact q own σ H G Fr.refl⟩
theorem rs_continue : RS c new fb (.Continue pos) sCt := ⟨tCont, fun _ _ => ps_continue, fun W own σ H env fl env' D ft G e q => by cases e; exact q own σ H G Fr.refl⟩
/-- a statement that is never come to -/
theorem rs_never : RS c new fb st sNo := ⟨tNever, fun _ _ => ps_never, fun W own σ H env fl env' D ft G e q => by cases e⟩
theorem rs_if {t : Expr} {A B : List Stmt} {ma mb : SM} (ht : RT c t bt) (ha : RSs c new fb A ma) (hb : RSs c new fb B mb) (hfb : ∀ i, c.pw = some i → i ∉ fb) : RS c new fb (.If t A B pos) (sIf bt ma mb) := by
  obtain ⟨tt, pt, ht⟩ := ht
  obtain ⟨ta, pa, ha⟩ := ha
  obtain ⟨tb, pb, hb⟩ := hb
  refine ⟨tIfS tt ta tb, fun X h => ps_if (pt X h) (pa X h) (pb X h), fun W own σ H env fl env' D ft G e q => ?_⟩
  have post : ∀ {H1 : Hp} {e1 : Env}, Ex W H H1 → SPost fb new W own H1 D fl env' := fun {H1 e1} x1 => by
    have f1 := x1.fr ft G hfb
    cases fl with
    | nx => exact fun own2 σ2 H2 G2 f2 => q own2 σ2 H2 G2 (f1.trans f2)
    | bk => exact fun own2 σ2 H2 G2 f2 => q own2 σ2 H2 G2 (f1.trans f2)
    | ct => exact fun own2 σ2 H2 G2 f2 => q own2 σ2 H2 G2 (f1.trans f2)
    | rt d => exact q
  unfold sIf at e
  split at e
  · rename_i e1 h1
    refine ht W own σ H env true e1 _ ft G h1 fun H1 x1 G1 => ?_
    rw [if_pos rfl]
    exact ha W own σ H1 e1 fl env' D ft G1 e (post (e1 := e1) x1)
  · rename_i e1 h1
    refine ht W own σ H env false e1 _ ft G h1 fun H1 x1 G1 => ?_
    exact hb W own σ H1 e1 fl env' D ft G1 e (post (e1 := e1) x1)
  · cases e
theorem sRet_some {env env' : Env} {fl : Fl} (h : sRet m env = some (fl, env')) : ∃ d, m env = some (d, env') ∧ fl = .rt d := by
  unfold sRet at h
  split at h
  · rename_i d e1 h1
    cases h
    exact ⟨d, h1, rfl⟩
  · cases h
theorem av_sub {W : Wd} {own : List (Nat × Addr)} {σ : St} {H : Hp} {env : Env} (G : Good W own σ H env) : ∀ a, (W.av a ∨ ∃ i, W.pot = some (i, a)) → Avd W own a := fun a h => by
  rcases h with h | ⟨i, h⟩
  · exact .inl (.inl h)
  · exact G.potAv i a h
theorem rs_ret (ha : RE c a m) : RS c false fb (.Return (some a) pos) (sRet m) := by
  obtain ⟨ta, pa, ha⟩ := ha
  refine ⟨tRet ta, fun X h => ps_ret (pa X h), fun W own σ H env fl env' D ft G e q => ?_⟩
  obtain ⟨d, h1, rfl⟩ := sRet_some e
  refine ha W own σ H env d env' _ ft G h1 fun v H' x1 G' w => q v _ own σ H' G' ?_
  show (if false = true then _ else _)
  rw [if_neg Bool.false_ne_true]
  exact w.av (av_sub G')
theorem rs_retNew (ha : RN c a m) : RS c true fb (.Return (some a) pos) (sRet m) := by
  obtain ⟨ta, pa, ha⟩ := ha
  refine ⟨tRet ta, fun X h => ps_ret (pa X h), fun W own σ H env fl env' D ft G e q => ?_⟩
  obtain ⟨d, h1, rfl⟩ := sRet_some e
  refine ha W own σ H env d env' _ ft G h1 fun p H' x1 hp hn R o => q _ _ own σ H' R ?_
  have G' : Good W own σ H' env' := R.less (fun _ h => h) fun _ h => .inl h
  show (if true = true then _ else _)
  rw [if_pos rfl]
  refine ⟨p, rfl, ?_, fun i z => hn (G'.potAv i p z), o.av fun a h => h.imp (av_sub G' a) id⟩
  cases z : W.H0 p with
  | none => rfl
  | some ob =>
    exfalso
    have := G.keep p ob z fun i z => hn (G'.potAv i p z)
    rw [hp] at this; cases this
/-- an owned object is handed back -/
theorem rs_retOwn {i : Nat} {x : Str} {px : Pos} (hN : c.N[i]? = some x) (hv : c.sc.names.lookup x = some .local ∨ c.sc.names.lookup x = some .cell ∨ c.sc.names.lookup x = some .free) (hi : i ∈ c.os) (ho : c.pw ≠ some i) (hd : (x == ("__debug__" : Str)) = false := by decide) (hcd : (x == ("__classdict__" : Str)) = false := by decide) :
    RS c true fb (.Return (some (.Name x px)) pos) (sRet (eV i)) := by
  refine ⟨tRet (tVar i), fun X h => ps_ret (pe_var (by rw [h.n]; exact hN) (by unfold Vis; rw [h.sc]; exact hv) hd hcd), fun W own σ H env fl env' D ft G e q => ?_⟩
  obtain ⟨d, h1, rfl⟩ := sRet_some e
  obtain ⟨h1, rfl⟩ := eV_some h1
  obtain ⟨p, hp, rfl⟩ := List.mem_map.mp (G.oall i (by rw [ft.2.1]; exact hi) d h1)
  obtain ⟨e1, d', e2, o⟩ := G.ow p hp
  rw [h1] at e2
  cases e2
  refine ⟨_, e1, q _ _ own σ H G ?_⟩
  have hne : W.pot ≠ some p := fun z => ho (by rw [← ft.1, z]; rfl)
  show (if true = true then _ else _)
  rw [if_pos rfl]
  refine ⟨p.2, rfl, (G.fr p hp).resolve_left hne, fun j z => ?_, o.av fun a h => ?_⟩
  · exact hne (by rw [z, own_uniq G.na hp (G.pin _ z) rfl])
  · rcases h with h | rfl
    · exact av_sub G a h
    · exact .inr (List.mem_map.mpr ⟨p, hp, rfl⟩)
theorem rs_retN : RS c false fb (.Return none pos) sRetN := by
  refine ⟨tRetN, fun X h => ps_retN, fun W own σ H env fl env' D ft G e q => ?_⟩
  cases e
  refine q _ _ own σ H G ?_
  show (if false = true then _ else _)
  rw [if_neg Bool.false_ne_true]
  exact .non
theorem sSet_some {i : Nat} {env env' : Env} {fl : Fl} (h : sSet i m env = some (fl, env')) : ∃ d e1, m env = some (d, e1) ∧ fl = .nx ∧ env' = e1.set i (some d) := by
  unfold sSet at h
  split at h
  · rename_i d e1 h1
    cases h
    exact ⟨d, e1, h1, rfl, rfl⟩
  · cases h
end
end Fw
set_option Elab.async false
set_option linter.all false
set_option maxRecDepth 100000
/-! Fw6: stores, loops, the def by its body. -/
namespace Fw
open PySem PySem.Spec PyProof.Rows L2

/-! ### targets -/
/-- the two are alike but at the slots ts -/
def Wiped (ts : List Nat) (σ σ' : St) : Prop := σ'.length = σ.length ∧ ∀ i, i ∉ ts → σ'[i]? = σ[i]?
theorem Wiped.refl {ts : List Nat} {σ : St} : Wiped ts σ σ := ⟨rfl, fun _ _ => rfl⟩
theorem Wiped.trans {ts : List Nat} {σ σ1 σ2 : St} (a : Wiped ts σ σ1) (b : Wiped ts σ1 σ2) : Wiped ts σ σ2 := ⟨b.1.trans a.1, fun i h => (b.2 i h).trans (a.2 i h)⟩
theorem Wiped.set {ts : List Nat} {σ : St} {i : Nat} {v : Option V} (h : i ∈ ts) : Wiped ts σ (σ.set i v) := ⟨List.length_set, fun j hj => List.getElem?_set_ne fun (z : i = j) => hj (z ▸ h)⟩
theorem wipe_get {σ : St} {i : Nat} : ∀ {vs : List Nat}, i ∉ vs → (wipe σ vs)[i]? = σ[i]?
  | [], _ => rfl
  | v :: vs, h => by
    unfold wipe
    rw [List.getElem?_set_ne fun (z : v = i) => h (z ▸ List.mem_cons_self), wipe_get fun z => h (List.mem_cons_of_mem _ z)]
theorem wipe_in {σ : St} {i : Nat} (hi : i < σ.length) : ∀ {vs : List Nat}, i ∈ vs → (wipe σ vs)[i]? = some none
  | [], h => nomatch h
  | v :: vs, h => by
    unfold wipe
    by_cases e : v = i
    · subst e
      exact List.getElem?_set_self (by rw [wipe_length]; exact hi)
    · rw [List.getElem?_set_ne e]
      exact wipe_in hi ((List.mem_cons.mp h).resolve_left fun z => e z.symm)
theorem Wiped.wipe {ts : List Nat} {σ σ' : St} (h : Wiped ts σ σ') : L2.wipe σ' ts = L2.wipe σ ts := by
  apply List.ext_getElem?
  intro i
  by_cases hi : i ∈ ts
  · by_cases hl : i < σ.length
    · rw [wipe_in (by rw [h.1]; exact hl) hi, wipe_in hl hi]
    · rw [List.getElem?_eq_none (by rw [wipe_length, h.1]; omega), List.getElem?_eq_none (by rw [wipe_length]; omega)]
  · rw [wipe_get hi, wipe_get hi, h.2 i hi]
abbrev GM := D → Env → Option Env
def gN (i : Nat) : GM := fun d e => some (e.set i (some d))
def gTs : List GM → List D → Env → Option Env
  | [], [], e => some e
  | g :: gs, d :: ds, e => match g d e with
    | some e1 => gTs gs ds e1
    | none => none
  | _, _, _ => none
def gT (gs : List GM) : GM := fun d e => match d with
  | .tuple ds => gTs gs ds e
  | _ => none
def RG (c : Ctx) (ts : List Nat) (tg : Expr) (g : GM) : Prop :=
  ∃ t : TG, (∀ X, InC c X → PG X tg t) ∧ ∀ (W : Wd) (own : List (Nat × Addr)) (σ : St) (H : Hp) (env : Env) (d : D) (env' : Env) (v : V) (Q : St → Hp → Prop), Fit c W → Good W own σ H env → Va H (Avd W own) v d → g d env = some env' →
    (∀ σ', Good W own σ' H env' → Wiped ts σ σ' → Q σ' H) → t v σ H Q
def RGs (c : Ctx) (ts : List Nat) (tgs : List Expr) (gs : List GM) : Prop :=
  ∃ t : TGs, (∀ X, InC c X → PGs X tgs t) ∧ ∀ (W : Wd) (own : List (Nat × Addr)) (σ : St) (H : Hp) (env : Env) (ds : List D) (env' : Env) (vs : List V) (Q : St → Hp → Prop), Fit c W → Good W own σ H env → Vas H (Avd W own) vs ds → gTs gs ds env = some env' →
    (∀ σ', Good W own σ' H env' → Wiped ts σ σ' → Q σ' H) → t vs σ H Q
section
variable {c : Ctx} {tg : Expr} {tgs : List Expr} {g : GM} {gs : List GM} {ts : List Nat} {pos : Pos}
theorem rg_n {i : Nat} {x : Str} (hN : c.N[i]? = some x) (hl : c.sc.names.lookup x = some .local ∨ (c.sc.names.lookup x = some .cell ∧ c.fns x = true)) (ho : i ∉ c.os) (ht : i ∈ ts := by decide) : RG c ts (.Name x pos) (gN i) := by
  refine ⟨gName i, fun X h => ?_, fun W own σ H env d env' v Q ft G w e q => ?_⟩
  · refine pg_name (by rw [h.n]; exact h.nd) (by rw [h.n]; exact hN) ?_ ?_
    · unfold L2.Loc
      rw [h.sc]
      rcases hl with hl | ⟨hl, _⟩
      · exact .inl hl
      · exact .inr hl
    · rw [h.sc]
      rcases hl with hl | ⟨_, hl⟩
      · exact .inr hl
      · exact .inl (h.fn x hl)
  · cases e
    exact q _ (G.set (by rw [ft.2.1]; exact ho) w) (Wiped.set ht)
theorem rgs_nil : RGs c ts [] [] := by
  refine ⟨gNil, fun X h => pgs_nil, fun W own σ H env ds env' vs Q ft G w e q => ?_⟩
  cases ds with
  | cons d ds => cases e
  | nil =>
    cases w
    cases e
    exact ⟨rfl, q σ G Wiped.refl⟩
theorem rgs_cons (h1 : RG c ts tg g) (h2 : RGs c ts tgs gs) (hs : ∀ env, (assignEach (tg :: tgs) env).map (·.2) = assign tg env :: (assignEach tgs env).map (·.2) := by intro _; rfl) : RGs c ts (tg :: tgs) (g :: gs) := by
  obtain ⟨t1, p1, h1⟩ := h1
  obtain ⟨t2, p2, h2⟩ := h2
  refine ⟨gCons t1 t2, fun X h => pgs_cons (p1 X h) (p2 X h) (hs _), fun W own σ H env ds env' vs Q ft G w e q => ?_⟩
  cases ds with
  | nil => cases e
  | cons d ds =>
    cases w with
    | cons w1 w2 =>
      rename_i v vs
      unfold gTs at e
      split at e
      · rename_i e1 h
        exact ⟨v, vs, rfl, h1 W own σ H env d e1 v _ ft G w1 h fun σ1 G1 a1 => h2 W own σ1 H e1 ds env' vs Q ft G1 w2 e fun σ2 G2 a2 => q σ2 G2 (a1.trans a2)⟩
      · cases e
theorem rg_t {k : Nat} {n : Nat} (h : RGs c ts tgs gs) (hn : ∀ env, (assignEach tgs env).length = n := by intro _; rfl) (hst : ∀ env, (assignEach tgs env).findIdx? (·.1) = none := by intro _; rfl) (hgl : gs.length = n := by rfl) : RG c ts (.Tuple tgs k pos) (gT gs) := by
  obtain ⟨t, p, h⟩ := h
  refine ⟨gTup c.K n t, fun X hX => by rw [← hX.k]; exact pg_tup hX.calm (p X hX) (hn _) (hst _), fun W own σ H env d env' v Q ft G w e q => ?_⟩
  unfold gT at e
  split at e
  · rename_i ds
    cases w with
    | tup r n' w =>
      rename_i a vs
      have hl : ∀ (gs : List GM) (ds : List D) (e e' : Env), gTs gs ds e = some e' → ds.length = gs.length := by
        intro gs
        induction gs with
        | nil => intro ds e e' h; cases ds with
          | nil => rfl
          | cons => cases h
        | cons g gs ih =>
          intro ds e e' h
          cases ds with
          | nil => cases h
          | cons d ds =>
            unfold gTs at h
            split at h
            · rw [List.length_cons, List.length_cons, ih _ _ _ h]
            · cases h
      refine ⟨a, vs, rfl, .inl r, ?_, h W own σ H env ds env' vs Q ft G w e q⟩
      rw [w.len, hl _ _ _ _ e, hgl]
  · cases e
end

/-! ### stores -/
section
variable {c : Ctx} {new : Bool} {fb : List Nat} {st : Stmt} {e a b : Expr} {pos px py pt : Pos} {m ma mb : EM} {i j : Nat} {x y : Str}
theorem nofb {W : Wd} {own : List (Nat × Addr)} {σ : St} {H H' : Hp} {env : Env} (hfb : ∀ i, c.pw = some i → i ∉ fb) (ft : Fit c W) (G : Good W own σ H env) (x : Ex W H H') : Fr fb own own H H' := x.fr ft G hfb
theorem rs_set (hN : c.N[i]? = some x) (hl : c.sc.names.lookup x = some .local ∨ (c.sc.names.lookup x = some .cell ∧ c.fns x = true)) (ho : i ∉ c.os) (hfb : ∀ i, c.pw = some i → i ∉ fb) (ha : RE c a m)
    (hs : ∀ env, env.scope = c.sc → swapsWith a (some (.Name x px)) pos.line env = pure false := by intro _ _; rfl) : RS c new fb (.Assign [.Name x px] a pos) (sSet i m) := by
  obtain ⟨ta, pa, ha⟩ := ha
  refine ⟨tAsg ta (gName i), fun X h => ?_, fun W own σ H env fl env' D ft G e q => ?_⟩
  · refine ps_set (by rw [h.n]; exact h.nd) (by rw [h.n]; exact hN) ?_ (pa X h) (hs _ h.sc) ?_
    · unfold L2.Loc
      rw [h.sc]
      rcases hl with hl | ⟨hl, _⟩
      · exact .inl hl
      · exact .inr hl
    · rw [h.sc]
      rcases hl with hl | ⟨_, hl⟩
      · exact .inr hl
      · exact .inl (h.fn x hl)
  · obtain ⟨d, e1, h1, rfl, rfl⟩ := sSet_some e
    exact ha W own σ H env d e1 _ ft G h1 fun v H' x1 G' w => q own _ H' (G'.set (by rw [ft.2.1]; exact ho) w) (nofb hfb ft G x1)
/-- forget what an owner's slot held -/
theorem adopt_fr {own : List (Nat × Addr)} {H H' : Hp} {p : Addr} (hif : i ∉ fb) (f : Fr fb own own H H') (hp : H p = none) : Fr fb own ((i, p) :: own.filter (fun q => q.1 ≠ i)) H H' := by
  refine ⟨fun b o e n => ⟨(f.out b o e n).1, fun z => ?_⟩, fun q hq hf => ⟨List.mem_cons_of_mem _ (List.mem_filter.mpr ⟨hq, ?_⟩), (f.lk q hq hf).2⟩⟩
  · rw [List.map_cons] at z
    rcases List.mem_cons.mp z with z | z
    · rw [z, hp] at e; cases e
    · obtain ⟨q, hq, e'⟩ := List.mem_map.mp z
      exact n (List.mem_map.mpr ⟨q, (List.mem_filter.mp hq).1, e'⟩)
  · have : q.1 ≠ i := fun z => hif (z ▸ hf)
    simpa using this
theorem rs_setN (hN : c.N[i]? = some x) (hl : c.sc.names.lookup x = some .local ∨ (c.sc.names.lookup x = some .cell ∧ c.fns x = true)) (ho : i ∈ c.os) (hpw : c.pw ≠ some i) (hif : i ∉ fb) (hfb : ∀ i, c.pw = some i → i ∉ fb) (ha : RN c a m)
    (hs : ∀ env, env.scope = c.sc → swapsWith a (some (.Name x px)) pos.line env = pure false := by intro _ _; rfl) : RS c new fb (.Assign [.Name x px] a pos) (sSet i m) := by
  obtain ⟨ta, pa, ha⟩ := ha
  refine ⟨tAsg ta (gName i), fun X h => ?_, fun W own σ H env fl env' D ft G e q => ?_⟩
  · refine ps_set (by rw [h.n]; exact h.nd) (by rw [h.n]; exact hN) ?_ (pa X h) (hs _ h.sc) ?_
    · unfold L2.Loc
      rw [h.sc]
      rcases hl with hl | ⟨hl, _⟩
      · exact .inl hl
      · exact .inr hl
    · rw [h.sc]
      rcases hl with hl | ⟨_, hl⟩
      · exact .inr hl
      · exact .inl (h.fn x hl)
  · obtain ⟨d, e1, h1, rfl, rfl⟩ := sSet_some e
    refine ha W own σ H env d e1 _ ft G h1 fun p H' x1 hp hn R o => ?_
    have G' : Good W own σ H' e1 := R.less (fun _ h => h) fun _ h => .inl h
    have h0 : W.H0 p = none := by
      cases z : W.H0 p with
      | none => rfl
      | some ob =>
        exfalso
        have := G.keep p ob z fun i z => hn (G'.potAv i p z)
        rw [hp] at this; cases this
    by_cases hl : i < e1.length
    · exact q _ _ H' (R.adopt (by rw [ft.2.1]; exact ho) (fun a z => hpw (by rw [← ft.1, z]; rfl)) hl h0 hn o) (adopt_fr hif (nofb hfb ft G x1) hp)
    · refine q own _ H' ?_ (nofb hfb ft G x1)
      have e1' : σ.set i (some (V.ref p)) = σ := List.set_eq_of_length_le (by rw [← G'.len]; omega)
      have e2' : e1.set i (some d) = e1 := List.set_eq_of_length_le (by omega)
      show Good W own (σ.set i (some (V.ref p))) H' (e1.set i (some d))
      rw [e1', e2']
      exact G'
theorem sDrop_some {env env' : Env} {fl : Fl} (h : sDrop m env = some (fl, env')) : ∃ d, m env = some (d, env') ∧ fl = .nx := by
  unfold sDrop at h
  split at h
  · rename_i d e1 h1
    cases h
    exact ⟨d, h1, rfl⟩
  · cases h
theorem rs_expr (hfb : ∀ i, c.pw = some i → i ∉ fb) (ha : RE c a m) (hs : ∀ env, swapsWith a none pos.line env = pure false := by intro _; rfl) : RS c new fb (.Expr a pos) (sDrop m) := by
  obtain ⟨ta, pa, ha⟩ := ha
  refine ⟨tDrop ta, fun X h => ps_expr (pa X h) (hs _), fun W own σ H env fl env' D ft G e q => ?_⟩
  obtain ⟨d, h1, rfl⟩ := sDrop_some e
  exact ha W own σ H env d env' _ ft G h1 fun v H' x1 G' w => q own _ H' G' (nofb hfb ft G x1)
/-- target = e by any target -/
def sAsg (m : EM) (g : GM) : SM := fun e => match m e with
  | some (d, e1) => match g d e1 with
    | some e2 => some (.nx, e2)
    | none => none
  | none => none
theorem rs_asg {tg : Expr} {g : GM} {ts : List Nat} (hfb : ∀ i, c.pw = some i → i ∉ fb) (ha : RE c a m) (hg : RG c ts tg g) (hs : ∀ env, swapsWithSole [tg] a pos.line env = pure false := by intro _; rfl) (hw : ∀ env, env.scope = c.sc → swappedStores [tg] a env = pure none := by intro _ _; rfl)
    (h1 : ∀ env, (assignEach [tg] env).map (·.2) = [assign tg env] := by intro _; rfl) : RS c new fb (.Assign [tg] a pos) (sAsg m g) := by
  obtain ⟨ta, pa, ha⟩ := ha
  obtain ⟨t, p, hg⟩ := hg
  refine ⟨tAsg ta t, fun X h => ps_asg (pa X h) (p X h) (hs _) (hw _ h.sc) (h1 _), fun W own σ H env fl env' D ft G e q => ?_⟩
  unfold sAsg at e
  split at e
  · rename_i d e1 h1
    split at e
    · rename_i e2 h2
      cases e
      exact ha W own σ H env d e1 _ ft G h1 fun v H' x1 G' w => hg W own σ H' e1 d _ v _ ft G' w h2 fun σ' G2 _ => q own σ' H' G2 (nofb hfb ft G x1)
    · cases e
  · cases e
end

/-! ### what is walked -/
structure Fr2 (W : Wd) (fb : List Nat) (own own' : List (Nat × Addr)) (H H' : Hp) : Prop where
  out : ∀ b o, H b = some o → ¬ Avd W own b → H' b = some o ∧ ¬ Avd W own' b
  lk : ∀ p ∈ own, p.1 ∈ fb → p ∈ own' ∧ H' p.2 = H p.2
theorem Fr.two {W : Wd} {fb : List Nat} {own own' : List (Nat × Addr)} {H H' : Hp} (f : Fr fb own own' H H') : Fr2 W fb own own' H H' :=
  ⟨fun b o e n => ⟨(f.out b o e fun z => n (.inr z)).1, fun z => z.elim (fun z => n (.inl z)) (f.out b o e fun z => n (.inr z)).2⟩, f.lk⟩
structure Src (W : Wd) (fb : List Nat) (J : It) (ds : List D) (S : List (Nat × Addr) → Hp → Prop) : Prop where
  keep : ∀ own own' H H', Fr2 W fb own own' H H' → S own H → S own' H'
  go : ∀ own H i d, S own H → Trk H (Avd W own) → ds[i]? = some d → J.go i H ∧ ∀ x H', J.yld i H x H' → Same H H' ∧ Va H' (Avd W own) x d
  stop : ∀ own H i, S own H → ds.length ≤ i → J.stop i H
/-- with more new objects -/
abbrev Wd.plus (W : Wd) (xs : List Addr) : Wd := { W with xa := xs ++ W.xa }
theorem avd_plus {W : Wd} {own : List (Nat × Addr)} {H : Hp} {xs : List Addr} (h : ∀ p ∈ xs, H p = none) : ∀ a o, H a = some o → ¬ Avd W own a → ¬ Avd (W.plus xs) own a := fun a o e n z => by
  rcases z with (z | z) | z
  · exact n (.inl (.inl z))
  · rcases List.mem_append.mp z with z | z
    · rw [h a z] at e; cases e
    · exact n (.inl (.inr z))
  · exact n (.inr z)
def RI (c : Ctx) (fb : List Nat) (tg iter : Expr) (m : AM) : Prop :=
  ∃ wi : TI, (∀ X, InC c X → PI X tg iter wi) ∧ ∀ (W : Wd) (own : List (Nat × Addr)) (σ : St) (H : Hp) (env : Env) (ds : List D) (env' : Env) (R : It → Hp → Prop), Fit c W → Good W own σ H env → m env = some (ds, env') →
    (∀ J H', Ex W H H' → Good W own σ H' env' → (∀ xs, (∀ p ∈ xs, H' p = none) → ∃ S, Src (W.plus xs) fb J ds S ∧ S own H') → R J H') → wi σ H R
def aL (m : EM) : AM := fun e => match m e with
  | some (.list ds, e1) => some (ds, e1)
  | _ => none
def aT (m : EM) : AM := fun e => match m e with
  | some (.tuple ds, e1) => some (ds, e1)
  | _ => none
/-- 0, 1, .. below n; a, .. below b -/
def upTo (lo : Int) (n : Nat) : List D := (List.range n).map fun (i : Nat) => .int (lo + i)
def small (i : Int) : Bool := decide (-(2 ^ 62) ≤ i) && decide (i < 2 ^ 62)
def aR1 (m : AM) : AM := fun e => match m e with
  | some ([.int n], e1) => if small n = true then some (upTo 0 n.toNat, e1) else none
  | _ => none
def aR2 (m : AM) : AM := fun e => match m e with
  | some ([.int a, .int b], e1) => if small a = true ∧ small b = true then some (upTo a (b - a).toNat, e1) else none
  | _ => none
section
variable {c : Ctx} {fb : List Nat} {tg e a b : Expr} {es : List Expr} {m : EM} {mr : AM} {p pos : Pos}
theorem Fr2.va {W : Wd} {own own' : List (Nat × Addr)} {H H' : Hp} (f : Fr2 W fb own own' H H') : (∀ a o, H a = some o → ¬ Avd W own a → H' a = some o) ∧ ∀ a o, H a = some o → ¬ Avd W own a → ¬ Avd W own' a :=
  ⟨fun a o e n => (f.out a o e n).1, fun a o e n => (f.out a o e n).2⟩
/-- a list that nobody owns, and one that is owned at a slot that is left alone -/
theorem src_list {W : Wd} {K : PySem.W.Frag} {ad : Addr} {xs : List V} {ds : List D} : Src W fb (Itl K ad) ds (fun own H => Rd H ad (.lst xs) ∧ ¬ Avd W own ad ∧ Vas H (Avd W own) xs ds) where
  keep := fun own own' H H' f ⟨r, n, w⟩ => by
    obtain ⟨o, e⟩ := Rd.is r
    exact ⟨Rd.to (fun o e => f.va.1 _ o e n) r, f.va.2 _ o e n, Vas.to f.va.1 f.va.2 _ _ w⟩
  go := fun own H i d ⟨r, n, w⟩ t e => by
    obtain ⟨v, h1, h2⟩ := w.get e
    exact ⟨⟨xs, v, .inl r, h1⟩, fun x H' ⟨e1, e2⟩ => by
      subst e1
      have := e2 xs (.inl r)
      rw [h1] at this
      cases this
      exact ⟨Same.refl _, h2⟩⟩
  stop := fun own H i ⟨r, n, w⟩ h => ⟨xs, .inl r, by rw [w.len]; exact h⟩
theorem src_own {W : Wd} {K : PySem.W.Frag} {q : Nat × Addr} {xs : List V} {ds : List D} (hq : q.1 ∈ fb) : Src W fb (Itl K q.2) ds (fun own H => q ∈ own ∧ H q.2 = some (.lst xs) ∧ Vas H (Avd W own) xs ds) where
  keep := fun own own' H H' f ⟨r, n, w⟩ => ⟨(f.lk q r hq).1, (f.lk q r hq).2.trans n, Vas.to f.va.1 f.va.2 _ _ w⟩
  go := fun own H i d ⟨r, n, w⟩ t e => by
    obtain ⟨v, h1, h2⟩ := w.get e
    exact ⟨⟨xs, v, SqL.of n, h1⟩, fun x H' ⟨e1, e2⟩ => by
      subst e1
      have := e2 xs (SqL.of n)
      rw [h1] at this
      cases this
      exact ⟨Same.refl _, h2⟩⟩
  stop := fun own H i ⟨r, n, w⟩ h => ⟨xs, SqL.of n, by rw [w.len]; exact h⟩
theorem src_tup {W : Wd} {K : PySem.W.Frag} {ad : Addr} {xs : List V} {ds : List D} : Src W fb (Itt K ad) ds (fun own H => Rd H ad (.tup xs) ∧ ¬ Avd W own ad ∧ Vas H (Avd W own) xs ds) where
  keep := fun own own' H H' f ⟨r, n, w⟩ => by
    obtain ⟨o, e⟩ := Rd.is r
    exact ⟨Rd.to (fun o e => f.va.1 _ o e n) r, f.va.2 _ o e n, Vas.to f.va.1 f.va.2 _ _ w⟩
  go := fun own H i d ⟨r, n, w⟩ t e => by
    obtain ⟨v, h1, h2⟩ := w.get e
    exact ⟨⟨xs, v, .inl r, h1⟩, fun x H' ⟨e1, e2⟩ => by
      subst e1
      have := e2 xs (.inl r)
      rw [h1] at this
      cases this
      exact ⟨Same.refl _, h2⟩⟩
  stop := fun own H i ⟨r, n, w⟩ h => ⟨xs, .inl r, by rw [w.len]; exact h⟩
theorem upTo_get {lo : Int} {n i : Nat} {d : D} (h : (upTo lo n)[i]? = some d) : i < n ∧ d = .int (lo + i) := by
  unfold upTo at h
  rw [List.getElem?_map] at h
  by_cases hi : i < n
  · rw [List.getElem?_range hi] at h
    cases h
    exact ⟨hi, rfl⟩
  · rw [List.getElem?_eq_none (by simpa using hi)] at h
    cases h
theorem src_range {W : Wd} {lo : Int} {n : Nat} : Src W fb (Itr lo n) (upTo lo n) (fun _ _ => True) where
  keep := fun _ _ _ _ _ _ => trivial
  go := fun own H i d _ t e => by
    obtain ⟨h1, rfl⟩ := upTo_get e
    exact ⟨h1, fun x H' ⟨e1, e2⟩ => by
      subst e1 e2
      exact ⟨Same.refl _, .int _⟩⟩
  stop := fun own H i _ h => by
    have : n ≤ i := by simpa [upTo] using h
    exact this
theorem ri_list (ha : RE c a m) : RI c fb tg a (aL m) := by
  obtain ⟨ta, pa, ha⟩ := ha
  refine ⟨iList c.K ta, fun X h => by rw [← h.k]; exact pi_list (pa X h), fun W own σ H env ds env' R ft G e q => ?_⟩
  unfold aL at e
  split at e
  · rename_i ds' e1 h1
    cases e
    refine ha W own σ H env _ _ _ ft G h1 fun v H' x1 G' w => ?_
    cases w with
    | lst r n w => exact ⟨_, rfl, ⟨_, .inl r⟩, q _ H' x1 G' fun xs hx => ⟨_, src_list, r, (Rd.is r).elim fun o e => avd_plus hx _ o e n, Vas.to (fun _ _ e _ => e) (avd_plus hx) _ _ w⟩⟩
  · cases e
/-- a name whose list is owned: its slot is among those that the body leaves -/
theorem ri_own {i : Nat} {x : Str} (hN : c.N[i]? = some x) (hv : c.sc.names.lookup x = some .local ∨ c.sc.names.lookup x = some .cell ∨ c.sc.names.lookup x = some .free) (hi : i ∈ c.os) (hf : i ∈ fb) (hd : (x == ("__debug__" : Str)) = false := by decide) (hcd : (x == ("__classdict__" : Str)) = false := by decide) :
    RI c fb tg (.Name x pos) (aL (eV i)) := by
  refine ⟨iList c.K (tVar i), fun X h => by rw [← h.k]; exact pi_list (pe_var (by rw [h.n]; exact hN) (by unfold Vis; rw [h.sc]; exact hv) hd hcd), fun W own σ H env ds env' R ft G e q => ?_⟩
  unfold aL at e
  split at e
  · rename_i ds' e1 h1
    cases e
    obtain ⟨h1, rfl⟩ := eV_some h1
    obtain ⟨p, hp, rfl⟩ := List.mem_map.mp (G.oall i (by rw [ft.2.1]; exact hi) _ h1)
    obtain ⟨e1, d', e2, xs, ds2, f1, f2, f3⟩ := G.ow p hp
    rw [h1] at e2
    cases e2
    cases f2
    exact ⟨_, e1, _, rfl, ⟨_, SqL.of f1⟩, q _ H (Ex.refl H) G fun xs hx => ⟨_, src_own hf, hp, f1, Vas.to (fun _ _ e _ => e) (avd_plus hx) _ _ f3⟩⟩
  · cases e
theorem ri_tup (ha : RE c a m) : RI c fb tg a (aT m) := by
  obtain ⟨ta, pa, ha⟩ := ha
  refine ⟨iTup c.K ta, fun X h => by rw [← h.k]; exact pi_tup (pa X h), fun W own σ H env ds env' R ft G e q => ?_⟩
  unfold aT at e
  split at e
  · rename_i ds' e1 h1
    cases e
    refine ha W own σ H env _ _ _ ft G h1 fun v H' x1 G' w => ?_
    cases w with
    | tup r n w => exact ⟨_, rfl, ⟨_, .inl r⟩, q _ H' x1 G' fun xs hx => ⟨_, src_tup, r, (Rd.is r).elim fun o e => avd_plus hx _ o e n, Vas.to (fun _ _ e _ => e) (avd_plus hx) _ _ w⟩⟩
  · cases e
/-- a list or a tuple: either -/
def orI (t u : TI) : TI := fun σ H R => t σ H R ∨ u σ H R
def aS (m : EM) : AM := fun e => match m e with
  | some (.tuple ds, e1) => some (ds, e1)
  | some (.list ds, e1) => some (ds, e1)
  | _ => none
theorem ri_seq (ha : RE c a m) : RI c fb tg a (aS m) := by
  obtain ⟨w1, p1, h1⟩ := ri_list (fb := fb) (tg := tg) ha
  obtain ⟨w2, p2, h2⟩ := ri_tup (fb := fb) (tg := tg) ha
  refine ⟨orI w1 w2, fun X h => ⟨fun pins s σ H R I q => q.elim ((p1 X h).run pins s σ H R I) ((p2 X h).run pins s σ H R I)⟩, fun W own σ H env ds env' R ft G e q => ?_⟩
  unfold aS at e
  split at e
  · rename_i ds' e1 h
    cases e
    exact .inr (h2 W own σ H env _ _ R ft G (by unfold aT; rw [h]) q)
  · rename_i ds' e1 h
    cases e
    exact .inl (h1 W own σ H env _ _ R ft G (by unfold aL; rw [h]) q)
  · cases e
theorem small_of {i : Int} (h : small i = true) : -(2 ^ 62) ≤ i ∧ i < 2 ^ 62 := by
  unfold small at h
  rw [Bool.and_eq_true, decide_eq_true_eq, decide_eq_true_eq] at h
  exact h
theorem ri_range1 (ha : RA c [a] mr) (hm : c.mg ("range" : Str) = none) (hg : c.sc.names.lookup ("range" : Str) = some .globalImplicit := by rfl) (hs : ∀ env, starEach [a] env = [(false, eval a env)] := by intro _; rfl) : RI c fb tg (.Call (.Name "range" p) [a] [] pos) (aR1 mr) := by
  obtain ⟨ta, pa, ha⟩ := ha
  refine ⟨iRng1 ta, fun X h => pi_range1 (by show X.env.scope.names.lookup _ = _; rw [h.sc]; exact hg) (by rw [h.mg]; exact hm) (pa X h) (hs _), fun W own σ H env ds env' R ft G e q => ?_⟩
  unfold aR1 at e
  split at e
  · rename_i n e1 h1
    split at e
    · rename_i hn
      cases e
      refine ha W own σ H env _ _ _ ft G h1 fun vs H' x1 G' w => ?_
      obtain ⟨b1, b2⟩ := small_of hn
      cases vs with
      | nil => exact w.elim
      | cons v vs =>
        cases vs with
        | cons => exact w.2.elim
        | nil =>
          have : v = .int n := by
            rcases w.1 with w | ⟨_, _, _, _, _, _, _, w, _⟩
            · cases w; rfl
            · cases w
          subst this
          exact ⟨n, rfl, b1, b2, q _ H' x1 G' fun xs hx => ⟨_, src_range, trivial⟩⟩
    · cases e
  · cases e
theorem ri_range2 (ha : RA c [a, b] mr) (hm : c.mg ("range" : Str) = none) (hg : c.sc.names.lookup ("range" : Str) = some .globalImplicit := by rfl) (hs : ∀ env, starEach [a, b] env = [(false, eval a env), (false, eval b env)] := by intro _; rfl) (hs2 : ∀ env, starEach [b] env = [(false, eval b env)] := by intro _; rfl) :
    RI c fb tg (.Call (.Name "range" p) [a, b] [] pos) (aR2 mr) := by
  obtain ⟨ta, pa, ha⟩ := ha
  refine ⟨iRng2 ta, fun X h => pi_range2 (by show X.env.scope.names.lookup _ = _; rw [h.sc]; exact hg) (by rw [h.mg]; exact hm) (pa X h) (hs _) (hs2 _), fun W own σ H env ds env' R ft G e q => ?_⟩
  unfold aR2 at e
  split at e
  · rename_i i j e1 h1
    split at e
    · rename_i hn
      cases e
      refine ha W own σ H env _ _ _ ft G h1 fun vs H' x1 G' w => ?_
      obtain ⟨b1, b2⟩ := small_of hn.1
      obtain ⟨b3, b4⟩ := small_of hn.2
      have isI : ∀ v k, Wk W own H' v (.int k) → v = .int k := fun v k w => by
        rcases w with w | ⟨_, _, _, _, _, _, _, w, _⟩
        · cases w; rfl
        · cases w
      cases vs with
      | nil => exact w.elim
      | cons v vs =>
        cases vs with
        | nil => exact w.2.elim
        | cons u vs =>
          cases vs with
          | cons => exact w.2.2.elim
          | nil =>
            have h1 := isI v i w.1
            have h2 := isI u j w.2.1
            subst h1 h2
            exact ⟨i, j, rfl, ⟨b1, b2, b3, b4⟩, q _ H' x1 G' fun xs hx => ⟨_, src_range, trivial⟩⟩
    · cases e
  · cases e
end

/-! ### loops -/
def forL (g : GM) (b : SM) : List D → Env → Option (Fl × Env)
  | [], e => some (.nx, e)
  | d :: ds, e => match g d e with
    | some e1 => match b e1 with
      | some (.nx, e2) => forL g b ds e2
      | some (.ct, e2) => forL g b ds e2
      | some (.bk, e2) => some (.nx, e2)
      | some (.rt r, e2) => some (.rt r, e2)
      | none => none
    | none => none
def sFor (i : AM) (g : GM) (b : SM) : SM := fun e => match i e with
  | some (ds, e1) => forL g b ds e1
  | none => none
def whL (t : BM) (b : SM) : Nat → Env → Option (Fl × Env)
  | 0, _ => none
  | n + 1, e => match t e with
    | some (true, e1) => match b e1 with
      | some (.nx, e2) => whL t b n e2
      | some (.ct, e2) => whL t b n e2
      | some (.bk, e2) => some (.nx, e2)
      | some (.rt r, e2) => some (.rt r, e2)
      | none => none
    | some (false, e1) => some (.nx, e1)
    | none => none
section
variable {c : Ctx} {new : Bool} {fb fb' : List Nat} {tg iter t : Expr} {body : List Stmt} {g : GM} {mi : AM} {mb : SM} {bt : BM} {pos : Pos}
theorem Good.same_own {W : Wd} {own : List (Nat × Addr)} {σ : St} {H H' : Hp} {env : Env} (G : Good W own σ H env) (s : Same H H') : Fr fb own own H H' := by
  refine ⟨fun b o e n => ⟨s b o e, n⟩, fun p hp _ => ⟨hp, ?_⟩⟩
  obtain ⟨_, d, _, xs, ds, e, _⟩ := G.ow p hp
  rw [e]
  exact s _ _ e
theorem rs_for {ts : List Nat} (hi : RI c fb' tg iter mi) (hg : RG c ts tg g) (hb : RSs c new fb' body mb) (hsub : ∀ i ∈ fb, i ∈ fb') (hfb : ∀ i, c.pw = some i → i ∉ fb')
    (hs : ∀ env x, foldedSetIterable iter env x = pure x := by intro _ _; rfl) : RS c new fb (.For tg iter body [] pos) (sFor mi g mb) := by
  obtain ⟨wi, pi, hi⟩ := hi
  obtain ⟨tgt, pg, hg⟩ := hg
  obtain ⟨tb, pb, hb⟩ := hb
  refine ⟨tFor wi tgt tb, fun X h => ps_for (by rw [h.xe]; exact PassesOwn.never) h.calm (pi X h) (pg X h) (pb X h) (hs _), fun W own σ H env fl env' D ft G e q => ?_⟩
  unfold sFor at e
  split at e
  · rename_i ds e1 h1
    refine hi W own σ H env ds e1 _ ft G h1 fun J H1 x1 G1 hsrc => ?_
    obtain ⟨S, src, s1⟩ := hsrc [] (fun _ h => nomatch h)
    refine ⟨fun i m σ2 H2 => ∃ own2 env2, m = ds.length - i ∧ i ≤ ds.length ∧ Good W own2 σ2 H2 env2 ∧ S own2 H2 ∧ Fr fb' own own2 H H2 ∧ forL g mb (ds.drop i) env2 = some (fl, env'),
      ⟨_, own, e1, rfl, Nat.zero_le _, G1, s1, x1.fr ft G hfb, by simpa using e⟩, ?_⟩
    rintro i m σ2 H2 ⟨own2, env2, rfl, hi2, G2, s2, f2, e2⟩
    by_cases hlt : i < ds.length
    · have hd : ds[i]? = some ds[i] := List.getElem?_eq_getElem hlt
      obtain ⟨go, yl⟩ := src.go own2 H2 i _ s2 G2.trk hd
      rw [List.drop_eq_getElem_cons hlt] at e2
      unfold forL at e2
      split at e2
      · rename_i e3 h3
        refine .inr ⟨go, fun σ' H' => ∃ own' env3, Good W own' σ' H' env3 ∧ S own' H' ∧ Fr fb' own own' H H' ∧ forL g mb (ds.drop (i + 1)) env3 = some (fl, env'), fun σ' H' ⟨own', env3, G', s', f', e'⟩ => ⟨ds.length - (i + 1), by omega, own', env3, rfl, hlt, G', s', f', e'⟩, fun x H3 hy => ?_⟩
        obtain ⟨sm, vx⟩ := yl x H3 hy
        have G3 := G2.same sm
        have f3 : Fr fb' own2 own2 H2 H3 := G2.same_own sm
        refine hg W own2 σ2 H3 env2 _ e3 x _ ft G3 vx h3 fun σ4 G4 _ => ?_
        cases hbm : mb e3 with
        | none => rw [hbm] at e2; cases e2
        | some r =>
          obtain ⟨fl2, e4⟩ := r
          rw [hbm] at e2
          refine hb W own2 σ4 H3 e3 fl2 e4 _ ft G4 hbm ?_
          cases fl2 with
          | nx => exact fun own5 σ5 H5 G5 f5 => ⟨own5, e4, G5, src.keep _ _ _ _ (f3.trans f5).two s2, (f2.trans f3).trans f5, e2⟩
          | ct => exact fun own5 σ5 H5 G5 f5 => ⟨own5, e4, G5, src.keep _ _ _ _ (f3.trans f5).two s2, (f2.trans f3).trans f5, e2⟩
          | bk =>
            cases e2
            exact fun own5 σ5 H5 G5 f5 => q own5 σ5 H5 G5 (((f2.trans f3).trans f5).weak hsub)
          | rt d =>
            cases e2
            exact q
      · cases e2
    · have hi3 : i = ds.length := by omega
      subst hi3
      refine .inl ⟨src.stop own2 H2 _ s2 (Nat.le_refl _), ?_⟩
      rw [List.drop_length] at e2
      cases e2
      exact q own2 σ2 H2 G2 (f2.weak hsub)
  · cases e
theorem rs_while (n : Nat) (ht : RT c t bt) (hb : RSs c new fb body mb) (hfb : ∀ i, c.pw = some i → i ∉ fb) : RS c new fb (.While t body [] pos) (whL bt mb n) := by
  obtain ⟨tt, pt, ht⟩ := ht
  obtain ⟨tb, pb, hb⟩ := hb
  refine ⟨tWhile tt tb, fun X h => ps_while (by rw [h.xe]; exact PassesOwn.never) (pt X h) (pb X h), fun W own σ H env fl env' D ft G e q => ?_⟩
  refine ⟨fun m σ2 H2 => ∃ own2 env2, Good W own2 σ2 H2 env2 ∧ Fr fb own own2 H H2 ∧ whL bt mb m env2 = some (fl, env'), ⟨n, own, env, G, Fr.refl, e⟩, ?_⟩
  rintro m σ2 H2 ⟨own2, env2, G2, f2, e2⟩
  cases m with
  | zero => cases e2
  | succ m =>
    unfold whL at e2
    split at e2
    · rename_i e3 h3
      refine ht W own2 σ2 H2 env2 true e3 _ ft G2 h3 fun H3 x3 G3 => ?_
      rw [if_pos rfl]
      have f3 := f2.trans (x3.fr ft G2 hfb)
      refine ⟨fun σ' H' => ∃ own' env3, Good W own' σ' H' env3 ∧ Fr fb own own' H H' ∧ whL bt mb m env3 = some (fl, env'), fun σ' H' h => ⟨m, Nat.lt_succ_self _, h⟩, ?_⟩
      cases hbm : mb e3 with
      | none => rw [hbm] at e2; cases e2
      | some r =>
        obtain ⟨fl2, e4⟩ := r
        rw [hbm] at e2
        refine hb W own2 σ2 H3 e3 fl2 e4 _ ft G3 hbm ?_
        cases fl2 with
        | nx => exact fun own5 σ5 H5 G5 f5 => ⟨own5, e4, G5, f3.trans f5, e2⟩
        | ct => exact fun own5 σ5 H5 G5 f5 => ⟨own5, e4, G5, f3.trans f5, e2⟩
        | bk =>
          cases e2
          exact fun own5 σ5 H5 G5 f5 => q own5 σ5 H5 G5 (f3.trans f5)
        | rt d =>
          cases e2
          exact q
    · rename_i e3 h3
      cases e2
      refine ht W own2 σ2 H2 env2 false _ _ ft G2 h3 fun H3 x3 G3 => ?_
      rw [if_neg Bool.false_ne_true]
      exact q own2 σ2 H3 G3 (f2.trans (x3.fr ft G2 hfb))
    · cases e2
end

/-! ### a def by its body -/
def runD (n N : Nat) (b : SM) : List D → Option (D × D) := fun ds => if ds.length = n then
    match b (ds.map some ++ List.replicate (N - n) none) with
    | some (.rt r, _) => some (r, .none)
    | some (.nx, _) => some (.none, .none)
    | _ => none
  else none
def runP (n N : Nat) (b : SM) : List D → Option (D × D) := fun ds => if ds.length = n then
    match b (ds.map some ++ List.replicate (N - n) none) with
    | some (.rt r, some d :: _) => some (r, d)
    | some (.nx, some d :: _) => some (.none, d)
    | _ => none
  else none
section
variable {P : Program} {w : World} {K : PySem.W.Frag} {mg : Str → Option Value} {base : Heap} {x qual : Str} {st : Stmt} {f : Addr} {fd : FuncData} {N ps : List Str} {k : Nat} {os : List Nat} {new : Bool} {mb : SM}
/-- the static side of a def's body -/
abbrev ctxD (P : Program) (w : World) (K : PySem.W.Frag) (mg : Str → Option Value) (base : Heap) (N : List Str) (st : Stmt) (k : Nat) (pw : Option Nat) (os : List Nat) : Ctx :=
  ⟨P, w, K, mg, base, N, defScope st, k, fun _ => true, pw, os⟩
theorem inC_body {pw : Option Nat} {cdv : Value} {A : Around} {outer : List PySem.Env} {s : Shared} {H : Hp} {E : XK} (hgd : A.guards = some []) (S : FnScope N ps (defScope st)) (hr : Room k (A.deeper (envOfC qual (defScope st) s.heap.objs.size f cdv))) :
    InC (ctxD P w K mg base N st k pw os) (cxOf CX0 P w K mg base N qual (defScope st) f cdv A outer s H E).nox :=
  ⟨rfl, rfl, rfl, rfl, rfl, rfl, rfl, rfl, hr, rfl, fun _ _ => rfl, S.kind, S.nd, hgd⟩
theorem start_get {vs : List V} {i : Nat} {v : V} (h : (start N vs)[i]? = some (some v)) : vs[i]? = some v := by
  unfold L2.start at h
  by_cases hi : i < vs.length
  · rw [List.getElem?_append_left (by simpa using hi), List.getElem?_map] at h
    cases e : vs[i]? with
    | none => rw [e] at h; cases h
    | some a => rw [e] at h; cases h; rfl
  · rw [List.getElem?_append_right (by simpa using hi), List.getElem?_replicate] at h
    split at h <;> cases h
theorem env_get {n : Nat} {ds : List D} {i : Nat} {d : D} (h : (ds.map some ++ List.replicate n none)[i]? = some (some d)) : ds[i]? = some d := by
  by_cases hi : i < ds.length
  · rw [List.getElem?_append_left (by simpa using hi), List.getElem?_map] at h
    cases e : ds[i]? with
    | none => rw [e] at h; cases h
    | some a => rw [e] at h; cases h; rfl
  · rw [List.getElem?_append_right (by simpa using hi), List.getElem?_replicate] at h
    split at h <;> cases h
theorem start_at {vs : List V} {i : Nat} {v : V} (h : vs[i]? = some v) : (start N vs)[i]? = some (some v) := by
  unfold L2.start
  have hi : i < vs.length := (List.getElem?_eq_some_iff.mp h).1
  rw [List.getElem?_append_left (by simpa using hi), List.getElem?_map, h]
  rfl
theorem RetV.nw {W : Wd} {H' : Hp} {v : V} {d : D} (h : RetV true W H' v d) : ∃ p, v = .ref p ∧ W.H0 p = none ∧ (∀ i, W.pot ≠ some (i, p)) ∧ Ow H' (fun a => (W.av a ∨ ∃ i, W.pot = some (i, a)) ∨ a = p) p d := by
  unfold RetV at h
  rwa [if_pos rfl] at h
theorem RetV.va {W : Wd} {H' : Hp} {v : V} {d : D} (h : RetV false W H' v d) : Va H' (fun a => W.av a ∨ ∃ i, W.pot = some (i, a)) v d := by
  unfold RetV at h
  rwa [if_neg Bool.false_ne_true] at h
theorem def_ok (F : L2.Fun K x qual st f fd) (S : FnScope N ps (defScope st)) (hb : RSs (ctxD P w K mg base N st k none os) new [] (defBody st) mb) (hos : ∀ i ∈ os, ps.length ≤ i)
    (hn : new = true → ∀ ds : List D, ∀ e, mb (ds.map some ++ List.replicate (N.length - ps.length) none) ≠ some (.nx, e)) : FnG P w K mg base CX0 (k + 1) f fd ps (spD ps.length new (runD ps.length N.length mb)) := by
  refine okG F S (fun vs H Q E h => ?_) (fun cdv A outer s H vs Q E hgd hr h => ?_)
  · obtain ⟨Av, ds, r, z, _, h1, _, _, h4, _⟩ := h
    rw [h4.len, h1]
  · obtain ⟨Av, ds, r, z, hsm, h1, ht, hm, hv, hq⟩ := h
    obtain ⟨t, pt, hb⟩ := hb
    refine ⟨t, pt _ (inC_body hgd S hr), ?_⟩
    unfold runD at hm
    rw [if_pos h1] at hm
    have hN : ps.length ≤ N.length := by have := congrArg List.length S.pre; rw [List.length_take] at this; omega
    let W : Wd := ⟨H, none, Av, os, []⟩
    have G : Good W [] (start N vs) H (ds.map some ++ List.replicate (N.length - ps.length) none) := by
      refine ⟨?_, List.nodup_nil, List.nodup_nil, fun p hp => (nomatch hp), fun i d e _ => ?_, Ex.refl H, fun p hp => (nomatch hp), fun p hp => (nomatch hp), fun a ha => ⟨ht a ha, fun i z => (nomatch z)⟩, fun _ h => h, fun p hp => (nomatch hp), fun _ h => (nomatch h), fun i hi d e => ?_⟩
      · unfold L2.start
        simp only [List.length_append, List.length_map, List.length_replicate, hv.len, h1]
      · obtain ⟨v, e1, e2⟩ := hv.get (env_get e)
        exact ⟨v, start_at e1, e2.av fun a h => h.elim (fun h => h.elim id fun z => nomatch z) fun z => absurd z (by simp)⟩
      · have := env_get e
        have h3 := (List.getElem?_eq_some_iff.mp this).1
        exact absurd (hos i hi) (by omega)
    cases hbm : mb (ds.map some ++ List.replicate (N.length - ps.length) none) with
    | none => rw [hbm] at hm; cases hm
    | some y =>
      obtain ⟨fl, e2⟩ := y
      rw [hbm] at hm
      refine hb W [] (start N vs) H _ fl e2 _ ⟨rfl, rfl, hsm⟩ G hbm ?_
      have same : ∀ {own' σ' H' Av'}, Rel W Av' own' σ' H' e2 → Same H H' := fun {own' σ' H' Av'} R b o e => R.keep b o e fun i z => (nomatch z)
      cases fl with
      | rt d =>
        cases hm
        intro v Av' own' σ' H' R rv
        refine hq v H' (same R) ?_
        cases new with
        | true =>
          obtain ⟨p, e1, e2, _, o⟩ := rv.nw
          show (if true = true then _ else _)
          rw [if_pos rfl]
          exact ⟨p, e1, e2, o.av fun a h => Or.imp (fun h => .inl h) id h⟩
        | false =>
          show (if false = true then _ else _)
          rw [if_neg Bool.false_ne_true]
          exact rv.va.av fun a h => .inl h
      | nx =>
        cases hm
        intro own' σ' H' G' f'
        refine hq .non H' (same G') ?_
        cases new with
        | true => exact absurd hbm (hn rfl ds e2)
        | false =>
          show (if false = true then _ else _)
          rw [if_neg Bool.false_ne_true]
          exact .non
      | bk => cases hm
      | ct => cases hm
theorem defP_ok (F : L2.Fun K x qual st f fd) (S : FnScope N ps (defScope st)) (hb : RSs (ctxD P w K mg base N st k (some 0) (0 :: os)) new [] (defBody st) mb) (hos : ∀ i ∈ os, ps.length ≤ i) (hps : 0 < ps.length)
    (hn : new = true → ∀ ds : List D, ∀ e, mb (ds.map some ++ List.replicate (N.length - ps.length) none) ≠ some (.nx, e)) : FnG P w K mg base CX0 (k + 1) f fd ps (spP ps.length new (runP ps.length N.length mb)) := by
  refine okG F S (fun vs H Q E h => ?_) (fun cdv A outer s H vs Q E hgd hr h => ?_)
  · obtain ⟨Av, a, ws, d, ds, r, d', _, rfl, h1, _, _, _, _, h4, _⟩ := h
    rw [List.length_cons, h4.len, h1]
  · obtain ⟨Av, a, ws, d, ds, r, d', hsm, rfl, h1, ht, hne, hm, ho, hv, hq⟩ := h
    obtain ⟨t, pt, hb⟩ := hb
    refine ⟨t, pt _ (inC_body hgd S hr), ?_⟩
    unfold runP at hm
    rw [if_pos (by rw [List.length_cons]; exact h1)] at hm
    have hN : ps.length ≤ N.length := by have := congrArg List.length S.pre; rw [List.length_take] at this; omega
    let W : Wd := ⟨H, some (0, a), Av, 0 :: os, []⟩
    have hav : ∀ b, Avd W [(0, a)] b → (Av b ∨ b = a) := fun b h => h.imp (fun h => h.elim id fun z => nomatch z) fun z => by simpa using z
    have G : Good W [(0, a)] (start N (.ref a :: ws)) H ((d :: ds).map some ++ List.replicate (N.length - ps.length) none) := by
      refine ⟨?_, by simp, by simp, fun p hp => ?_, fun i d e n => ?_, Ex.refl H, fun p hp => ?_, fun p hp => ?_, fun b hb => ⟨ht b (.inl hb), fun i z => hne b hb (by cases z; rfl)⟩, fun _ h => h, fun p hp => ?_, fun _ h => (nomatch h), fun i hi d e => ?_⟩
      · unfold L2.start
        simp only [List.length_append, List.length_map, List.length_replicate, List.length_cons, hv.len, h1]
      · have : p = (0, a) := by simpa using hp
        subst this
        exact ⟨start_at rfl, d, rfl, ho.av hav⟩
      · have e := env_get e
        cases i with
        | zero => exact absurd (show 0 ∈ [((0 : Nat), a)].map (·.1) by simp) n
        | succ i =>
          obtain ⟨v, e1, e2⟩ := hv.get (i := i) (by simpa using e)
          exact ⟨v, start_at (by simpa using e1), e2.av hav⟩
      · have : p = (0, a) := by simpa using hp
        subst this
        exact .inl rfl
      · cases hp
        simp
      · have : p = (0, a) := by simpa using hp
        subst this
        exact List.mem_cons_self
      · rcases List.mem_cons.mp hi with rfl | hi
        · simp
        · have := env_get e
          have h3 := (List.getElem?_eq_some_iff.mp this).1
          rw [List.length_cons] at h3
          exact absurd (hos i hi) (by omega)
    cases hbm : mb ((d :: ds).map some ++ List.replicate (N.length - ps.length) none) with
    | none => rw [hbm] at hm; cases hm
    | some y =>
      obtain ⟨fl, e2⟩ := y
      rw [hbm] at hm
      refine hb W [(0, a)] _ H _ fl e2 _ ⟨rfl, rfl, hsm⟩ G hbm ?_
      have same : ∀ {own' σ' H' Av'}, Rel W Av' own' σ' H' e2 → ∀ b o, H b = some o → b ≠ a → H' b = some o := fun {own' σ' H' Av'} R b o e n => R.keep b o e fun i z => n (by cases z; rfl)
      have pot : ∀ {own' σ' H' Av'}, Rel W Av' own' σ' H' e2 → ∃ d2, e2[0]? = some (some d2) ∧ Ow H' (fun b => Av b ∨ b = a) a d2 := fun {own' σ' H' Av'} R => by
        obtain ⟨_, d2, f1, f2⟩ := R.ow _ (R.pin (0, a) rfl)
        refine ⟨d2, f1, f2.av fun b h => R.sub b ?_⟩
        rcases h with h | rfl
        · exact .inl (.inl h)
        · exact .inr (List.mem_map.mpr ⟨(0, b), R.pin _ rfl, rfl⟩)
      have avs : ∀ b, (Av b ∨ b = a) → (Av b ∨ ∃ i, some (0, a) = some (i, b)) := fun b h => h.imp id fun z => ⟨0, by rw [z]⟩
      cases fl with
      | rt d2 =>
        split at hm
        · rename_i r' d3 _ hx
          cases hx
          cases hm
          intro v Av' own' σ' H' R rv
          obtain ⟨d4, g1, g2⟩ := pot R
          have : d4 = d' := by simpa using g1.symm
          subst this
          refine hq v H' (same R) g2 ?_
          cases new with
          | true =>
            obtain ⟨p, e1, e2, _, o⟩ := rv.nw
            show (if true = true then _ else _)
            rw [if_pos rfl]
            exact ⟨p, e1, e2, o.av fun b h => h.imp (avs b) id⟩
          | false =>
            show (if false = true then _ else _)
            rw [if_neg Bool.false_ne_true]
            exact rv.va.av avs
        · rename_i hx
          cases hx
        · cases hm
      | nx =>
        split at hm
        · rename_i hx
          cases hx
        · rename_i d3 _ hx
          cases hx
          cases hm
          intro own' σ' H' G' f'
          obtain ⟨d4, g1, g2⟩ := pot G'
          have : d4 = d' := by simpa using g1.symm
          subst this
          refine hq .non H' (same G') g2 ?_
          cases new with
          | true => exact absurd hbm (hn rfl (d :: ds) _)
          | false =>
            show (if false = true then _ else _)
            rw [if_neg Bool.false_ne_true]
            exact .non
        · cases hm
      | bk => cases hm
      | ct => cases hm
end
end Fw
set_option Elab.async false
set_option linter.all false
set_option maxRecDepth 100000
/-! Fw7: list comprehensions of one clause. -/
namespace Fw
open PySem PySem.Spec PyProof.Rows L2

def wipeE (e : Env) : List Nat → Env
  | [] => e
  | v :: vs => (wipeE e vs).set v none
theorem wipeE_length (e : Env) : ∀ vs : List Nat, (wipeE e vs).length = e.length
  | [] => rfl
  | v :: vs => by unfold wipeE; rw [List.length_set, wipeE_length e vs]
theorem wipeE_get {e : Env} {i : Nat} : ∀ {vs : List Nat}, i ∉ vs → (wipeE e vs)[i]? = e[i]?
  | [], _ => rfl
  | v :: vs, h => by
    unfold wipeE
    rw [List.getElem?_set_ne fun (z : v = i) => h (z ▸ List.mem_cons_self), wipeE_get fun z => h (List.mem_cons_of_mem _ z)]
theorem wipeE_some {e : Env} {i : Nat} {d : D} : ∀ {vs : List Nat}, (wipeE e vs)[i]? = some (some d) → e[i]? = some (some d) ∧ i ∉ vs
  | [], h => ⟨h, by simp⟩
  | v :: vs, h => by
    unfold wipeE at h
    by_cases hi : v = i
    · subst hi
      by_cases hv : v < (wipeE e vs).length
      · rw [List.getElem?_set_self hv] at h; cases h
      · rw [List.getElem?_eq_none (by simpa using hv)] at h; cases h
    · rw [List.getElem?_set_ne hi] at h
      obtain ⟨h1, h2⟩ := wipeE_some h
      exact ⟨h1, by simp only [List.mem_cons, not_or]; exact ⟨fun e => hi e.symm, h2⟩⟩
theorem Rel.wipe {W : Wd} {Av : Addr → Prop} {own : List (Nat × Addr)} {σ : St} {H : Hp} {env : Env} (R : Rel W Av own σ H env) (vs : List Nat) (hv : ∀ i ∈ vs, i ∉ W.os) : Rel W Av own (L2.wipe σ vs) H (wipeE env vs) where
  len := by rw [wipeE_length, wipe_length]; exact R.len
  ns := R.ns
  na := R.na
  ow := fun p hp => by
    have hn : p.1 ∉ vs := fun z => hv _ z (R.osub p hp)
    rw [wipe_get hn, wipeE_get hn]
    exact R.ow p hp
  va := fun i d e n => by
    obtain ⟨e1, hn⟩ := wipeE_some e
    rw [wipe_get hn]
    exact R.va i d e1 n
  keep := R.keep
  fr := R.fr
  pin := R.pin
  avt := R.avt
  sub := R.sub
  osub := R.osub
  xt := R.xt
  oall := fun i hi d e => R.oall i hi d (wipeE_some e).1

/-- a comprehension's block -/
abbrev ctxC (c : Ctx) (scope : Scope) : Ctx := { c with sc := relS scope c.sc, fns := fun x => scope.names.lookup x == some .cell }
theorem inC_blk {c : Ctx} {X : Cx} {scope : Scope} {own : List (Str × Nat)} (h : InC c X) (ok : BlkOk c.N c.sc scope own) (s : Shared) (H : Hp) (C : Addr) (cl : List (Str × Addr)) (fp : List Addr) : InC (ctxC c scope) (X.blk s H scope (compEnvC scope cl C X.env) fp) :=
  ⟨h.p, h.w, h.k, h.mg, h.base, h.n, by show relS scope X.env.scope = relS scope c.sc; rw [h.sc], h.calm, h.room, rfl, fun x hx => hx, ok.kind, h.nd, h.gd⟩

def compL (vs : List Nat) (g : GM) (t : BM) (me : EM) : List D → Env → Option (List D × Env)
  | [], e => some ([], e)
  | d :: ds, e => match g d e with
    | some e1 => match t e1 with
      | some (true, e2) => match me e2 with
        | some (y, e3) => match compL vs g t me ds (wipeE e3 vs) with
          | some (ys, e4) => some (y :: ys, e4)
          | none => none
        | none => none
      | some (false, e2) => compL vs g t me ds (wipeE e2 vs)
      | none => none
    | none => none
/-- the pot behind a block -/
def putPot (pw : Option Nat) (e1 e2 : Env) : Env := match pw with
  | none => e1
  | some i => match e2[i]? with
    | some (some d) => e1.set i (some d)
    | _ => e1
def eComp (pw : Option Nat) (vs : List Nat) (mi : AM) (g : GM) (t : BM) (me : EM) : EM := fun e => match mi e with
  | some (ds, e1) => match compL vs g t me ds (wipeE e1 vs) with
    | some (ys, e2) => if ys.length ≤ 16777216 then some (.list ys, putPot pw e1 e2) else none
    | none => none
  | none => none
def bYes : BM := fun e => some (true, e)
/-- a clause's tests -/
def RTs (c : Ctx) (ifs : List Expr) (m : BM) : Prop :=
  ∃ t : TT, (∀ X, InC c X → PTs X ifs t) ∧ ∀ (W : Wd) (own : List (Nat × Addr)) (σ : St) (H : Hp) (env : Env) (b : Bool) (env' : Env) (Q : Bool → Hp → Prop), Fit c W → Good W own σ H env → m env = some (b, env') →
    (∀ H', Ex W H H' → Good W own σ H' env' → Q b H') → t σ H Q
section
variable {c : Ctx} {e elt tg iter : Expr} {ifs : List Expr} {scope : Scope} {own : List (Str × Nat)} {pos : Pos} {m me : EM} {mi : AM} {g : GM} {t : BM}
theorem rts_nil : RTs c [] bYes := ⟨tYes, fun _ _ => pts_nil, fun W own σ H env d env' Q f G e q => by cases e; exact q _ (Ex.refl H) G⟩
theorem rts_one (h : RT c e t) : RTs c [e] t := by
  obtain ⟨tt, p, h⟩ := h
  exact ⟨tt, fun X hX => pts_one (p X hX), h⟩
theorem Good.plus {W : Wd} {own : List (Nat × Addr)} {σ : St} {H : Hp} {env : Env} {D : Addr} {o : HO} (G : Good W own σ H env) (hD : H D = none) : Good (W.plus [D]) own σ (upd H D o) env := by
  have hav := G.trk.new hD
  have s : Same H (upd H D o) := same_upd hD
  have k1 : ∀ a o', H a = some o' → ¬ Avd W own a → (upd H D o) a = some o' := fun a o' e _ => s a o' e
  have k2 : ∀ a o', H a = some o' → ¬ Avd W own a → ¬ Avd (W.plus [D]) own a := avd_plus fun p hp => by
    have : p = D := by simpa using hp
    rw [this]; exact hD
  have hDo : D ∉ own.map (·.2) := fun z => hav (.inr z)
  refine ⟨G.len, G.ns, G.na, fun p hp => ?_, fun i d e n => ?_, fun b o' e n => s b o' (G.keep b o' e n), G.fr, G.pin, G.avt, fun _ h => h, G.osub, fun a ha => ?_, G.oall⟩
  · obtain ⟨e1, d, e2, xs, ds, f1, f2, f3⟩ := G.ow p hp
    exact ⟨e1, d, e2, xs, ds, s _ _ f1, f2, Vas.to k1 k2 _ _ f3⟩
  · obtain ⟨v, e1, e2⟩ := G.va i d e n
    exact ⟨v, e1, Va.to k1 k2 _ _ e2⟩
  · rcases List.mem_append.mp ha with ha | ha
    · have : a = D := by simpa using ha
      subst this
      refine ⟨⟨_, upd_same⟩, fun i z => hav (G.potAv i a z), hDo, ?_⟩
      show W.H0 a = none
      cases z : W.H0 a with
      | none => rfl
      | some ob =>
        exfalso
        have := G.keep a ob z fun i z => hav (G.potAv i a z)
        rw [hD] at this; cases this
    · obtain ⟨⟨o', e⟩, r⟩ := G.xt a ha
      exact ⟨⟨o', s _ _ e⟩, r⟩
/-- the object that is being made changes -/
theorem Good.made {W : Wd} {own : List (Nat × Addr)} {σ : St} {H : Hp} {env : Env} {D : Addr} {o : HO} (G : Good W own σ H env) (hD : D ∈ W.xa) : Good W own σ (upd H D o) env := by
  obtain ⟨_, hp, ho, h0⟩ := G.xt D hD
  have k1 : ∀ a o', H a = some o' → ¬ Avd W own a → (upd H D o) a = some o' := fun a o' e n => by rw [upd_ne fun (z : a = D) => n (.inl (.inr (z ▸ hD)))]; exact e
  refine ⟨G.len, G.ns, G.na, fun p hp => ?_, fun i d e n => ?_, fun b o' e n => ?_, G.fr, G.pin, G.avt, fun _ h => h, G.osub, fun a ha => ?_, G.oall⟩
  · obtain ⟨e1, d, e2, xs, ds, f1, f2, f3⟩ := G.ow p hp
    have hpD : p.2 ≠ D := fun z => ho (z ▸ List.mem_map.mpr ⟨p, hp, rfl⟩)
    exact ⟨e1, d, e2, xs, ds, by rw [upd_ne hpD]; exact f1, f2, Vas.to k1 (fun _ _ _ n => n) _ _ f3⟩
  · obtain ⟨v, e1, e2⟩ := G.va i d e n
    exact ⟨v, e1, Va.to k1 (fun _ _ _ n => n) _ _ e2⟩
  · have hb : b ≠ D := fun z => by rw [z, h0] at e; cases e
    rw [upd_ne hb]
    exact G.keep b o' e n
  · obtain ⟨⟨o', e⟩, r⟩ := G.xt a ha
    by_cases hb : a = D
    · subst hb; exact ⟨⟨_, upd_same⟩, r⟩
    · exact ⟨⟨o', by rw [upd_ne hb]; exact e⟩, r⟩
/-- back from the block -/
theorem Good.back {W : Wd} {own : List (Nat × Addr)} {σ σ' : St} {H1 H2 : Hp} {e1 e2 : Env} {D : Addr} (ft : W.pot.map (·.1) = c.pw) (G1 : Good W own σ H1 e1) (hD : H1 D = none) (G2 : Good (W.plus [D]) own σ' H2 e2) (x : Ex W H1 H2) :
    Rel W (fun a => Avd W own a ∨ a = D) own σ H2 (putPot c.pw e1 e2) := by
  have hav := G1.trk.new hD
  have k2 : ∀ a o', H1 a = some o' → ¬ Avd W own a → ¬ (Avd W own a ∨ a = D) := fun a o' e n z => by
    rcases z with z | z
    · exact n z
    · rw [z, hD] at e; cases e
  have kx : ∀ a o', H1 a = some o' → ¬ Avd W own a → H2 a = some o' := fun a o e n => x a o e fun i z => n (G1.potAv i a z)
  have av2 : ∀ a, (Avd W own a ∨ a = D) → Avd (W.plus [D]) own a := fun a h => by
    rcases h with (h | h) | h
    · exact .inl (h.imp id fun z => List.mem_append_right _ z)
    · exact .inr h
    · exact .inl (.inr (by rw [h]; exact List.mem_append_left _ List.mem_cons_self))
  have other : ∀ p ∈ own, W.pot ≠ some p → H2 p.2 = H1 p.2 := fun p hp hn => by
    obtain ⟨_, d, _, xs, ds, f1, _⟩ := G1.ow p hp
    rw [f1]
    refine x _ _ f1 fun i z => hn ?_
    rw [z, own_uniq G1.na hp (G1.pin _ z) rfl]
  have base : ∀ p ∈ own, W.pot ≠ some p → σ[p.1]? = some (some (.ref p.2)) ∧ ∃ d, e1[p.1]? = some (some d) ∧ Ow H2 (fun a => Avd W own a ∨ a = D) p.2 d := fun p hp hn => by
    obtain ⟨f0, d, f1, xs, ds, f2, f3, f4⟩ := G1.ow p hp
    exact ⟨f0, d, f1, xs, ds, by rw [other p hp hn]; exact f2, f3, Vas.to kx k2 _ _ f4⟩
  have xt : ∀ a ∈ W.xa, (∃ o, H2 a = some o) ∧ (∀ i, W.pot ≠ some (i, a)) ∧ a ∉ own.map (·.2) ∧ W.H0 a = none := fun a ha => by
    obtain ⟨⟨o, e⟩, r⟩ := G1.xt a ha
    exact ⟨⟨o, x a o e r.1⟩, r⟩
  have keep : Ex W W.H0 H2 := G1.keep.trans x
  cases hw : W.pot with
  | none =>
    have hpw : c.pw = none := by rw [← ft, hw]; rfl
    rw [hpw]
    show Rel W _ own σ H2 e1
    exact ⟨G1.len, G1.ns, G1.na, fun p hp => base p hp (by rw [hw]; intro z; cases z), fun i d e n => by
      obtain ⟨v, f1, f2⟩ := G1.va i d e n
      exact ⟨v, f1, Va.to kx k2 _ _ f2⟩, keep, G1.fr, G1.pin, G1.avt, fun _ h => .inl h, G1.osub, xt, G1.oall⟩
  | some q =>
    obtain ⟨i, a⟩ := q
    have hpw : c.pw = some i := by rw [← ft, hw]; rfl
    have hin := G1.pin _ hw
    obtain ⟨_, d2, f2, o2⟩ := G2.ow (i, a) hin
    obtain ⟨f0, d1, f1, _⟩ := G1.ow (i, a) hin
    have f2 : e2[i]? = some (some d2) := f2
    have f1 : e1[i]? = some (some d1) := f1
    have hi : i < e1.length := (List.getElem?_eq_some_iff.mp f1).1
    rw [hpw]
    show Rel W _ own σ H2 (match e2[i]? with
      | some (some d) => e1.set i (some d)
      | _ => e1)
    rw [f2]
    show Rel W _ own σ H2 (e1.set i (some d2))
    refine ⟨by rw [List.length_set]; exact G1.len, G1.ns, G1.na, fun p hp => ?_, fun j d e n => ?_, keep, G1.fr, G1.pin, G1.avt, fun _ h => .inl h, G1.osub, xt, fun j hj d e => ?_⟩
    · by_cases hp' : p = (i, a)
      · subst hp'
        exact ⟨f0, d2, List.getElem?_set_self hi, o2.av av2⟩
      · have n1 : i ≠ p.1 := fun z => hp' (slot_uniq G1.ns hp hin z.symm)
        obtain ⟨g0, d, g1, g2⟩ := base p hp (by rw [hw]; intro z; exact hp' (Option.some.inj z).symm)
        exact ⟨g0, d, by rw [List.getElem?_set_ne n1]; exact g1, g2⟩
    · have n1 : i ≠ j := fun z => n (List.mem_map.mpr ⟨(i, a), hin, z⟩)
      rw [List.getElem?_set_ne n1] at e
      obtain ⟨v, f1, f2⟩ := G1.va j d e n
      exact ⟨v, f1, Va.to kx k2 _ _ f2⟩
    · by_cases n1 : i = j
      · subst n1
        exact List.mem_map.mpr ⟨(i, a), hin, rfl⟩
      · rw [List.getElem?_set_ne n1] at e
        exact G1.oall j hj d e
theorem lt_line {n : Nat} (h : n < 16777216) : n < sizeLine := by rw [sizeLine_eq]; exact h
/-- the reading of a comprehension -/
theorem comp_core {wi : TI} {tgt : TG} {tt : TT} {te : TE} {fb : List Nat} {vs : List Nat} (hfb : ∀ i, c.pw = some i → i ∉ fb) (hvs : ∀ i ∈ vs, i ∉ c.os)
    (hi : ∀ (W : Wd) (own : List (Nat × Addr)) (σ : St) (H : Hp) (env : Env) (ds : List D) (env' : Env) (R : It → Hp → Prop), Fit c W → Good W own σ H env → mi env = some (ds, env') →
      (∀ J H', Ex W H H' → Good W own σ H' env' → (∀ xs, (∀ p ∈ xs, H' p = none) → ∃ S, Src (W.plus xs) fb J ds S ∧ S own H') → R J H') → wi σ H R)
    (hg : ∀ (W : Wd) (own : List (Nat × Addr)) (σ : St) (H : Hp) (env : Env) (d : D) (env' : Env) (v : V) (Q : St → Hp → Prop), Fit (ctxC c scope) W → Good W own σ H env → Va H (Avd W own) v d → g d env = some env' →
      (∀ σ', Good W own σ' H env' → Wiped vs σ σ' → Q σ' H) → tgt v σ H Q)
    (ht : ∀ (W : Wd) (own : List (Nat × Addr)) (σ : St) (H : Hp) (env : Env) (b : Bool) (env' : Env) (Q : Bool → Hp → Prop), Fit (ctxC c scope) W → Good W own σ H env → t env = some (b, env') →
      (∀ H', Ex W H H' → Good W own σ H' env' → Q b H') → tt σ H Q)
    (he : ∀ (W : Wd) (own : List (Nat × Addr)) (σ : St) (H : Hp) (env : Env) (d : D) (env' : Env) (Q : VK), Fit (ctxC c scope) W → Good W own σ H env → me env = some (d, env') →
      (∀ v H', Ex W H H' → Good W own σ H' env' → Va H' (Avd W own) v d → Q v H') → te σ H Q)
    {W : Wd} {ow : List (Nat × Addr)} {σ : St} {H : Hp} {env : Env} {d : D} {env' : Env} {Q : VK} (ft : Fit c W) (G : Good W ow σ H env) (e : eComp c.pw vs mi g t me env = some (d, env'))
    (q : ∀ p H', Ex W H H' → H p = none → ¬ Avd W ow p → Rel W (fun a => Avd W ow a ∨ a = p) ow σ H' env' → Ow H' (fun a => Avd W ow a ∨ a = p) p d → Q (.ref p) H') : tLc wi tgt tt te vs σ H Q := by
  unfold eComp at e
  split at e
  · rename_i ds e1 h1
    split at e
    · rename_i ys e2 h2
      split at e
      · rename_i hz
        cases e
        refine hi W ow σ H env ds e1 _ ft G h1 fun J H1 x1 G1 hsrc => ?_
        intro D hD
        obtain ⟨S, src, s1⟩ := hsrc [D] fun p hp => by
          have : p = D := by simpa using hp
          rw [this]; exact hD
        have G2 := (G1.plus (o := .lst []) hD).wipe vs fun i hi => by
          show i ∉ W.os
          rw [ft.2.1]; exact hvs i hi
        have ft2 : Fit (ctxC c scope) (W.plus [D]) := ft
        have hDx : D ∈ (W.plus [D]).xa := List.mem_append_left _ List.mem_cons_self
        have s2 : S ow (upd H1 D (.lst [])) := src.keep _ _ _ _ (G1.same_own (same_upd hD)).two s1
        refine ⟨fun i m H2 => ∃ envk acc ysd ysr, m = ds.length - i ∧ i ≤ ds.length ∧ Good (W.plus [D]) ow (L2.wipe σ vs) H2 envk ∧ H2 D = some (.lst acc) ∧ Vas H2 (Avd (W.plus [D]) ow) acc ysd ∧ (Ex W H1 H2) ∧ S ow H2 ∧
          compL vs g t me (ds.drop i) envk = some (ysr, e2) ∧ ysd ++ ysr = ys, ⟨_, wipeE e1 vs, [], [], ys, rfl, Nat.zero_le _, G2, upd_same, .nil, Ex.same (same_upd hD), s2, h2, rfl⟩, ?_⟩
        rintro i m H2 ⟨envk, acc, ysd, ysr, rfl, hi2, G3, hacc, vacc, x2, s3, hc, hys⟩
        by_cases hlt : i < ds.length
        · right
          have hd : ds[i]? = some ds[i] := List.getElem?_eq_getElem hlt
          obtain ⟨go, yl⟩ := src.go ow H2 i _ s3 G3.trk hd
          refine ⟨go, fun H' => ∃ envk acc ysd ysr, Good (W.plus [D]) ow (L2.wipe σ vs) H' envk ∧ H' D = some (.lst acc) ∧ Vas H' (Avd (W.plus [D]) ow) acc ysd ∧ Ex W H1 H' ∧ S ow H' ∧
            compL vs g t me (ds.drop (i + 1)) envk = some (ysr, e2) ∧ ysd ++ ysr = ys, fun H' ⟨envk, acc, ysd, ysr, a1, a2, a3, a4, a5, a6, a7⟩ => ⟨ds.length - (i + 1), by omega, envk, acc, ysd, ysr, rfl, hlt, a1, a2, a3, a4, a5, a6, a7⟩, fun x H3 hy => ?_⟩
          obtain ⟨sm, vx⟩ := yl x H3 hy
          have G4 := G3.same sm
          have hf3 : Fr fb ow ow H2 H3 := G3.same_own sm
          rw [List.drop_eq_getElem_cons hlt] at hc
          unfold compL at hc
          split at hc
          · rename_i e3 h3
            refine hg (W.plus [D]) ow _ H3 envk _ e3 x _ ft2 G4 vx h3 fun σ4 G5 w4 => ⟨w4.wipe.trans (by
              apply List.ext_getElem?
              intro j
              by_cases hj : j ∈ vs
              · by_cases hl : j < σ.length
                · rw [wipe_in (by rw [wipe_length]; exact hl) hj, wipe_in hl hj]
                · rw [List.getElem?_eq_none (by rw [wipe_length, wipe_length]; omega), List.getElem?_eq_none (by rw [wipe_length]; omega)]
              · rw [wipe_get hj]), ?_⟩
            have back : ∀ {H5 : Hp} {e5 : Env}, Good (W.plus [D]) ow σ4 H5 e5 → Good (W.plus [D]) ow (L2.wipe σ vs) H5 (wipeE e5 vs) := fun {H5 e5} G6 => by
              have G7 := G6.wipe vs fun i hi => by
                show i ∉ W.os
                rw [ft.2.1]; exact hvs i hi
              have ew : L2.wipe σ4 vs = L2.wipe σ vs := w4.wipe.trans (by
                apply List.ext_getElem?
                intro j
                by_cases hj : j ∈ vs
                · by_cases hl : j < σ.length
                  · rw [wipe_in (by rw [wipe_length]; exact hl) hj, wipe_in hl hj]
                  · rw [List.getElem?_eq_none (by rw [wipe_length, wipe_length]; omega), List.getElem?_eq_none (by rw [wipe_length]; omega)]
                · rw [wipe_get hj])
              rw [← ew]
              exact G7
            have nD : ∀ i, (W.plus [D]).pot ≠ some (i, D) := (G5.xt D hDx).2.1
            split at hc
            · rename_i e4 h4
              refine ht (W.plus [D]) ow σ4 H3 e3 true e4 _ ft2 G5 h4 fun H4 x4 G6 => ?_
              rw [if_pos rfl]
              split at hc
              · rename_i y e5 h5
                refine he (W.plus [D]) ow σ4 H4 e4 y e5 _ ft2 G6 h5 fun v H5 x5 G7 vy => ?_
                have k35 : Ex (W.plus [D]) H3 H5 := x4.trans x5
                have a1 : H5 D = some (.lst acc) := k35 D _ (sm D _ hacc) nD
                split at hc
                · rename_i ys' e6 h6
                  cases hc
                  have hlen : acc.length = ysd.length := vacc.len
                  have hl2 : ysd.length + (ys'.length + 1) ≤ 16777216 := by
                    have := congrArg List.length hys
                    rw [List.length_append, List.length_cons] at this
                    omega
                  refine ⟨acc, a1, lt_line (by omega), wipeE e5 vs, acc ++ [v], ysd ++ [y], ys', ?_, upd_same, ?_, ?_, ?_, h6, by rw [List.append_assoc]; exact hys⟩
                  · exact (back G7).made hDx
                  · have u : Vas H5 (Avd (W.plus [D]) ow) (acc ++ [v]) (ysd ++ [y]) := ((vacc.same sm).ex G5.potAv k35).append (.cons vy .nil)
                    exact Vas.to (fun a o e n => by rw [upd_ne fun (z : a = D) => n (.inl (.inr (z ▸ hDx)))]; exact e) (fun _ _ _ n => n) _ _ u
                  · intro b o e n
                    have hb : b ≠ D := fun z => by rw [z, hD] at e; cases e
                    rw [upd_ne hb]
                    exact k35 b o (sm b o (x2 b o e n)) n
                  · have f5 : Fr fb ow ow H2 H5 := hf3.trans (Ex.fr (c := c) (W := W.plus [D]) ft G5 k35 hfb)
                    have s5 : S ow H5 := src.keep _ _ _ _ f5.two s3
                    refine src.keep _ _ _ _ ⟨fun b o e n => ⟨by rw [upd_ne fun (z : b = D) => n (.inl (.inr (z ▸ hDx)))]; exact e, n⟩, fun p hp _ => ⟨hp, ?_⟩⟩ s5
                    exact upd_ne fun (z : p.2 = D) => (G7.xt D hDx).2.2.1 (z ▸ List.mem_map.mpr ⟨p, hp, rfl⟩)
                · cases hc
              · cases hc
            · rename_i e4 h4
              refine ht (W.plus [D]) ow σ4 H3 e3 false e4 _ ft2 G5 h4 fun H4 x4 G6 => ?_
              rw [if_neg Bool.false_ne_true]
              have k34 : Ex (W.plus [D]) H3 H4 := x4
              exact ⟨wipeE e4 vs, acc, ysd, ysr, back G6, k34 D _ (sm D _ hacc) nD, (vacc.same sm).ex G5.potAv k34, fun b o e n => k34 b o (sm b o (x2 b o e n)) n, src.keep _ _ _ _ (hf3.trans (Ex.fr (c := c) (W := W.plus [D]) ft G5 k34 hfb)).two s3, hc, hys⟩
            · cases hc
          · cases hc
        · have hi3 : i = ds.length := by omega
          subst hi3
          rw [List.drop_length] at hc
          cases hc
          refine .inl ⟨src.stop ow H2 _ s3 (Nat.le_refl _), ?_⟩
          have x3 : Ex W H H2 := x1.trans x2
          rw [List.append_nil] at hys
          subst hys
          refine q D H2 x3 (Ex.new G1 x1 hD) (G1.trk.new hD) (Good.back ft.1 G1 hD G3 x2) ⟨acc, ysd, hacc, rfl, vacc.av fun a h => ?_⟩
          rcases h with (h | h) | h
          · exact .inl (h.imp id fun z => List.mem_append_right _ z)
          · exact .inr h
          · exact .inl (.inr (by rw [h]; exact hDx))
      · cases e
    · cases e
  · cases e
/-- [elt for tg in iter if ..] -/
theorem rn_comp {fb vs : List Nat} (hfb : ∀ i, c.pw = some i → i ∉ fb) (hvs : ∀ i ∈ vs, i ∉ c.os) (ok : BlkOk c.N c.sc scope own) (ho : own.map (·.2) = vs) (hi : RI c fb tg iter mi) (hg : RG (ctxC c scope) vs tg g) (ht : RTs (ctxC c scope) ifs t) (he : RE (ctxC c scope) elt me)
    (hs : ∀ env x, foldedSetIterable iter env x = pure x := by intro _ _; rfl) : RN c (.ListComp elt [⟨tg, iter, ifs, 0⟩] scope pos) (eComp c.pw vs mi g t me) := by
  obtain ⟨wi, pi, hi⟩ := hi
  obtain ⟨tgt, pg, hg⟩ := hg
  obtain ⟨tt, pt, ht⟩ := ht
  obtain ⟨te, pe, he⟩ := he
  refine ⟨tLc wi tgt tt te (own.map (·.2)), fun X h => ?_, fun W ow σ H env d env' Q ft G e q => ?_⟩
  · refine pe_lc h.calm (by rw [h.n]; exact h.nd) (pi X h) (by rw [h.n, h.sc]; exact ok) (fun s H C cl fp => pg _ (inC_blk h ok s H C cl fp)) (fun s H C cl fp => pt _ (inC_blk h ok s H C cl fp)) (fun s H C cl fp => pe _ (inC_blk h ok s H C cl fp)) (hs _)
  · rw [ho]
    exact comp_core (scope := scope) hfb hvs hi hg ht he ft G e q
/-- y = [elt for tg in iter if ..] -/
theorem rs_setC {new : Bool} {fb vs : List Nat} {i : Nat} {y : Str} {py spos : Pos} (hy : c.N[i]? = some y) (hyl : c.sc.names.lookup y = some .local) (hif : i ∉ c.os) (hfb : ∀ i, c.pw = some i → i ∉ fb) (hvs : ∀ i ∈ vs, i ∉ c.os) (ok : BlkOk c.N c.sc scope own) (ho : own.map (·.2) = vs)
    (hl : (py.line == pos.line) = true := by rfl) (ha : (scope.names.any fun (n, k) => n == y && (k == .local || k == .cell)) = false := by decide +kernel) (hi : RI c fb tg iter mi) (hg : RG (ctxC c scope) vs tg g) (ht : RTs (ctxC c scope) ifs t) (he : RE (ctxC c scope) elt me)
    (hs : ∀ env x, foldedSetIterable iter env x = pure x := by intro _ _; rfl) : RS c new fb (.Assign [.Name y py] (.ListComp elt [⟨tg, iter, ifs, 0⟩] scope pos) spos) (sSet i (eComp c.pw vs mi g t me)) := by
  obtain ⟨wi, pi, hi⟩ := hi
  obtain ⟨tgt, pg, hg⟩ := hg
  obtain ⟨tt, pt, ht⟩ := ht
  obtain ⟨te, pe, he⟩ := he
  refine ⟨tAsg (tLc wi tgt tt te (own.map (·.2))) (gName i), fun X h => ?_, fun W ow σ H env fl env' D ft G e q => ?_⟩
  · exact ps_setLc h.calm (by rw [h.n]; exact h.nd) (by rw [h.n]; exact hy) (by rw [h.sc]; exact hyl) (sw_true (by rw [h.sc]; exact h.kind) (by rw [h.sc]; exact hyl) hl ha) (pi X h) (by rw [h.n, h.sc]; exact ok) (fun s H C cl fp => pg _ (inC_blk h ok s H C cl fp)) (fun s H C cl fp => pt _ (inC_blk h ok s H C cl fp)) (fun s H C cl fp => pe _ (inC_blk h ok s H C cl fp)) (hs _)
  · rw [ho]
    obtain ⟨d, e1, h1, rfl, rfl⟩ := sSet_some e
    refine comp_core (scope := scope) hfb hvs hi hg ht he ft G h1 fun p H' x1 hp hn R o => ?_
    have G' : Good W ow σ H' e1 := R.less (fun _ h => h) fun _ h => .inl h
    obtain ⟨xs, ds, f1, rfl, f3⟩ := o
    exact q ow _ H' (G'.set (by rw [ft.2.1]; exact hif) (.lst (.inl f1) hn (f3.av fun a h => .inl h))) (x1.fr ft G hfb)
theorem rs_setCN {new : Bool} {fb vs : List Nat} {i : Nat} {y : Str} {py spos : Pos} (hy : c.N[i]? = some y) (hyl : c.sc.names.lookup y = some .local) (hio : i ∈ c.os) (hpw : c.pw ≠ some i) (hif : i ∉ fb) (hfb : ∀ i, c.pw = some i → i ∉ fb) (hvs : ∀ i ∈ vs, i ∉ c.os) (ok : BlkOk c.N c.sc scope own) (ho : own.map (·.2) = vs)
    (hl : (py.line == pos.line) = true := by rfl) (ha : (scope.names.any fun (n, k) => n == y && (k == .local || k == .cell)) = false := by decide +kernel) (hi : RI c fb tg iter mi) (hg : RG (ctxC c scope) vs tg g) (ht : RTs (ctxC c scope) ifs t) (he : RE (ctxC c scope) elt me)
    (hs : ∀ env x, foldedSetIterable iter env x = pure x := by intro _ _; rfl) : RS c new fb (.Assign [.Name y py] (.ListComp elt [⟨tg, iter, ifs, 0⟩] scope pos) spos) (sSet i (eComp c.pw vs mi g t me)) := by
  obtain ⟨wi, pi, hi⟩ := hi
  obtain ⟨tgt, pg, hg⟩ := hg
  obtain ⟨tt, pt, ht⟩ := ht
  obtain ⟨te, pe, he⟩ := he
  refine ⟨tAsg (tLc wi tgt tt te (own.map (·.2))) (gName i), fun X h => ?_, fun W ow σ H env fl env' D ft G e q => ?_⟩
  · exact ps_setLc h.calm (by rw [h.n]; exact h.nd) (by rw [h.n]; exact hy) (by rw [h.sc]; exact hyl) (sw_true (by rw [h.sc]; exact h.kind) (by rw [h.sc]; exact hyl) hl ha) (pi X h) (by rw [h.n, h.sc]; exact ok) (fun s H C cl fp => pg _ (inC_blk h ok s H C cl fp)) (fun s H C cl fp => pt _ (inC_blk h ok s H C cl fp)) (fun s H C cl fp => pe _ (inC_blk h ok s H C cl fp)) (hs _)
  · rw [ho]
    obtain ⟨d, e1, h1, rfl, rfl⟩ := sSet_some e
    refine comp_core (scope := scope) hfb hvs hi hg ht he ft G h1 fun p H' x1 hp hn R o => ?_
    have G' : Good W ow σ H' e1 := R.less (fun _ h => h) fun _ h => .inl h
    have h0 : W.H0 p = none := by
      cases z : W.H0 p with
      | none => rfl
      | some ob =>
        exfalso
        have := G.keep p ob z fun i z => hn (G'.potAv i p z)
        rw [hp] at this; cases this
    by_cases hl : i < e1.length
    · exact q _ _ H' (R.adopt (by rw [ft.2.1]; exact hio) (fun a z => hpw (by rw [← ft.1, z]; rfl)) hl h0 hn o) (adopt_fr hif (x1.fr ft G hfb) hp)
    · refine q ow _ H' ?_ (x1.fr ft G hfb)
      have e1' : σ.set i (some (V.ref p)) = σ := List.set_eq_of_length_le (by rw [← G'.len]; omega)
      have e2' : e1.set i (some d) = e1 := List.set_eq_of_length_le (by omega)
      show Good W ow (σ.set i (some (V.ref p))) H' (e1.set i (some d))
      rw [e1', e2']
      exact G'
end
end Fw
set_option Elab.async false
set_option linter.all false
set_option maxRecDepth 100000
/-! Fw8a: rules of the machine that the layer lacks: tuple * 0 and 1, list + list of any lists. -/
namespace Fw
open PySem PySem.Spec PyProof.Rows L2
theorem tuple_mul1W (l : Addr) (items : Array Value) (n : Nat) (dd : Option Addr) (sl : Array (Option Value)) (u : Tok) :
    Meets (Builtin.«tuple.__mul__» ⟨[.ref l, .int 1 u], []⟩) (fun _ R s => s.heap.get? l = some { cls := .type "tuple", dict := dd, data := .seq items n, slots := sl } ∧ R (.ok (.ret (Value.ref l))) s) :=
  .of_wp fun prog w A R s h => by
    obtain ⟨hp, g, d, tk, os⟩ := s
    obtain ⟨hl, h⟩ := h
    have f1 := AutoSeq1.idx_int
    have c0 : (decide ((1 : Int) < -(2 ^ 63)) || decide ((1 : Int) ≥ 2 ^ 63)) = false := by decide
    have c1 : (items.isEmpty || (1 : Int) == 1) = true := by simp
    wp_walk using wpAny_loadPart' hl
    exact ⟨_, rfl, h⟩
theorem tuple_mul0W (l : Addr) (items : Array Value) (n : Nat) (dd : Option Addr) (sl : Array (Option Value)) (x : Int) (u : Tok) (c0 : (decide (x < -(2 ^ 63)) || decide (x ≥ 2 ^ 63)) = false) (c1 : (items.isEmpty || x == 1) = false) (c2 : (decide (x ≤ 0) || items.isEmpty) = true) :
    Meets (Builtin.«tuple.__mul__» ⟨[.ref l, .int x u], []⟩) (fun _ R s => s.heap.get? l = some { cls := .type "tuple", dict := dd, data := .seq items n, slots := sl } ∧
      R (.ok (.ret (Value.ref s.heap.objs.size))) { s with heap := s.heap.push { cls := Value.type "tuple", data := Data.seq #[] } }) :=
  .of_wp fun prog w A R s h => by
    obtain ⟨hp, g, d, tk, os⟩ := s
    obtain ⟨hl, h⟩ := h
    have f1 := AutoSeq1.idx_int
    have hsz : (#[] : Array Value).size ≤ sizeLine := Nat.zero_le _
    wp_walk using wpAny_loadPart' hl
    repeat (first
      | (refine wpAny_ite_false (decide_eq_false (by rw [c0]; exact Bool.false_ne_true)) ?_; wp_walk using wpAny_loadPart' hl)
      | (refine wpAny_ite_false (decide_eq_false (by rw [c1]; exact Bool.false_ne_true)) ?_; wp_walk using wpAny_loadPart' hl)
      | (refine wpAny_ite_true (decide_eq_true (by rw [c2])) ?_; wp_walk using wpAny_loadPart' hl)
      | (refine wpAny_ite_false (decide_eq_false (Nat.not_lt.mpr hsz)) ?_; wp_walk using wpAny_loadPart' hl))
    exact ⟨_, rfl, h⟩
section
variable {X : Cx}
/-- a tuple (not empty) some times, also once or not at all -/
def rRepA (K : PySem.W.Frag) : R2 := fun x y H Q => ∃ l k xs, x = .ref l ∧ y = .int k ∧ SqT K H l xs ∧ xs ≠ [] ∧ -1000 ≤ k ∧ k ≤ 1000 ∧ xs.length ≤ 1000 ∧ (k = 1 → Q (.ref l) H) ∧ (k ≠ 1 → ∀ p, H p = none → Q (.ref p) (upd H p (.tup (List.replicate k.toNat xs).flatten)))
theorem op_repA : OpR X (binaryOp .Mult) (rRepA X.K) := by
  intro pins s σ H x y v u Q I rx ry h
  obtain ⟨l, k, xs, rfl, rfl, hT, hne, h1, h2, hz, q1, q2⟩ := h
  by_cases hk : 2 ≤ k
  · exact op_repT pins s σ H (.ref l) (.int k) v u Q I rx ry ⟨l, k, xs, rfl, rfl, hT, hne, hk, h2, hz, q2 (by omega)⟩
  cases rx
  obtain ⟨t, rfl⟩ := ry
  obtain ⟨its, r, ⟨⟨cls, dd, data, sl⟩, ho, hc, n, hd⟩, hs⟩ := I.tuple hT
  simp only at hc hd
  subst hc hd
  have hle : its.length = xs.length := r.length.symm
  have hn : its ≠ [] := fun e => hne (by
    rw [e] at hle
    exact List.eq_nil_of_length_eq_zero hle.symm)
  have hi : its.toArray.isEmpty = false := by
    cases its with
    | nil => exact absurd rfl hn
    | cons a b => rfl
  have go : ∀ {M : Meets (Builtin.«tuple.__mul__» ⟨[.ref l, .int k t], []⟩) = Meets (Builtin.«tuple.__mul__» ⟨[.ref l, .int k t], []⟩)}, True := fun {_} => trivial
  by_cases h0 : k = 1
  · subst h0
    exact wpAny_binaryOp_repeat_ref (T := "tuple") (U := "int") (by decide) ⟨_, ho, rfl⟩ (fun s' => typeIs_int s' 1 t) noFill_tuple_mul F.fills_int_mul F.slot_int_rmul repeat_tuple F.slot_int_index.lookup
      (call_meets F.slot_int_rmul (typeIs_int s 1 t) F.entry_int_rmul (F.args_int_rmul_2 _ _) (int_rmul_tuple 1 t l its.toArray n dd sl)
        ⟨ho, rfl, ⟨_, ho, rfl⟩, call_meets F.slot_tuple_mul ⟨_, ho, rfl⟩ F.entry_tuple_mul (F.args_tuple_mul_2 _ _) (tuple_mul1W l its.toArray n dd sl t) ⟨ho, ⟨.ref l, H, I, rfl, q1 rfl⟩⟩⟩)
  · have c0 : (decide (k < -(2 ^ 63)) || decide (k ≥ 2 ^ 63)) = false := by
      rw [decide_eq_false (by omega), decide_eq_false (by omega)] <;> rfl
    have c1 : (its.toArray.isEmpty || k == 1) = false := by
      rw [hi, Bool.false_or]
      exact beq_eq_false_iff_ne.mpr (by omega)
    have c2 : (decide (k ≤ 0) || its.toArray.isEmpty) = true := by
      rw [decide_eq_true (show k ≤ 0 by omega)]
      rfl
    refine wpAny_binaryOp_repeat_ref (T := "tuple") (U := "int") (by decide) ⟨_, ho, rfl⟩ (fun s' => typeIs_int s' k t) noFill_tuple_mul F.fills_int_mul F.slot_int_rmul repeat_tuple F.slot_int_index.lookup
      (call_meets F.slot_int_rmul (typeIs_int s k t) F.entry_int_rmul (F.args_int_rmul_2 _ _) (int_rmul_tuple k t l its.toArray n dd sl)
        ⟨ho, rfl, ⟨_, ho, rfl⟩, call_meets F.slot_tuple_mul ⟨_, ho, rfl⟩ F.entry_tuple_mul (F.args_tuple_mul_2 _ _) (tuple_mul0W l its.toArray n dd sl k t c0 c1 c2) ⟨ho, ?_⟩⟩)
    have e0 : (List.replicate k.toNat xs).flatten = [] := by
      rw [show k.toNat = 0 by omega]
      rfl
    have q := q2 h0
    rw [e0] at q
    refine ⟨.ref s.heap.objs.size, _, I.laid (t' := s.toks) (o := .tup []) (fun b ob q => Heap.get?_push_of_some _ q) (Nat.le_refl _) ?_, rfl, q _ (I.hok.fresh (Nat.le_refl _))⟩
    exact ⟨Nat.zero_le _, [], .nil, IsTup.new _ _⟩
/-- list + list, whoever has them -/
def rCatL (K : PySem.W.Frag) : R2 := fun x y H Q => ∃ l b xs zs, x = .ref l ∧ y = .ref b ∧ SqL K H l xs ∧ SqL K H b zs ∧ xs.length + zs.length ≤ sizeLine ∧ ∀ p, H p = none → Q (.ref p) (upd H p (.lst (xs ++ zs)))
theorem op_catL : OpR X (binaryOp .Add) (rCatL X.K) := by
  intro pins s σ H x y v u Q I rx ry h
  obtain ⟨l, b, xs, zs, rfl, rfl, hH, hB, hz, q⟩ := h
  cases rx
  cases ry
  obtain ⟨its, r, p1, hl⟩ := I.list hH
  obtain ⟨its2, r2, p2, hl2⟩ := I.list hB
  obtain ⟨⟨cls, dd, data, sl⟩, ho, hc, n, hd⟩ := p1.isList
  obtain ⟨⟨cls2, dd2, data2, sl2⟩, ho2, hc2, n2, hd2⟩ := p2.isList
  simp only at hc hd hc2 hd2
  subst hc hd hc2 hd2
  have e1 := r.length
  have e2 := r2.length
  refine concat_meets ⟨_, ho, rfl⟩ ⟨_, ho2, rfl⟩ noFill_list_add seq_list_add PySem.F.slot_list_add PySem.F.entry_list_add (PySem.F.args_list_add_2 _ _) (list_addW l b its.toArray its2.toArray n n2 dd dd2 sl sl2 (by rw [List.size_toArray, List.size_toArray]; omega)) ⟨ho, ho2, ?_⟩
  have ea : its.toArray ++ its2.toArray = (its ++ its2).toArray := by simp
  rw [ea]
  exact ⟨.ref _, _, I.lnew (t' := s.toks) (r.append r2) (by rw [List.length_append]; omega), rfl, q _ I.fresh⟩
end
end Fw
set_option Elab.async false
set_option linter.all false
set_option maxRecDepth 100000
/-! Fw8: the operations by data. -/
namespace Fw
open PySem PySem.Spec PyProof.Rows L2

section
variable {H H' : Hp} {Av : Addr → Prop} {v : V}
theorem Vw.int {i : Int} (h : Vw H Av v (.int i)) : v = .int i := by
  rcases h with h | ⟨_, _, _, _, _, e, _⟩
  · cases h; rfl
  · cases e
theorem Vw.bool {k : Bool} (h : Vw H Av v (.bool k)) : v = .bl k := by
  rcases h with h | ⟨_, _, _, _, _, e, _⟩
  · cases h; rfl
  · cases e
theorem Vw.str {x : Str} (h : Vw H Av v (.str x)) : v = .str x := by
  rcases h with h | ⟨_, _, _, _, _, e, _⟩
  · cases h; rfl
  · cases e
theorem Vw.non (h : Vw H Av v .none) : v = .non := by
  rcases h with h | ⟨_, _, _, _, _, e, _⟩
  · cases h; rfl
  · cases e
theorem Vw.list {ds : List D} (h : Vw H Av v (.list ds)) : ∃ a xs, v = .ref a ∧ Rd H a (.lst xs) ∧ Vas H Av xs ds := by
  rcases h with h | ⟨a, rfl, xs, ds', f1, f2, f3⟩
  · cases h with
    | lst r n w => exact ⟨_, _, rfl, r, w⟩
  · cases f2
    exact ⟨a, xs, rfl, .inl f1, f3⟩
theorem Vw.tup {ds : List D} (h : Vw H Av v (.tuple ds)) : ∃ a xs, v = .ref a ∧ Rd H a (.tup xs) ∧ ¬ Av a ∧ Vas H Av xs ds := by
  rcases h with h | ⟨a, rfl, xs, ds', f1, f2, f3⟩
  · cases h with
    | tup r n w => exact ⟨_, _, rfl, r, n, w⟩
  · cases f2
theorem Vw.noList {d : D} (h : Vw H Av v d) (hd : ∀ ds, d ≠ .list ds) : Va H Av v d := by
  rcases h with h | ⟨_, _, _, ds, _, e, _⟩
  · exact h
  · exact absurd e (hd ds)
end
section
variable {K : PySem.W.Frag} {H : Hp} {Av : Addr → Prop}
mutual
theorem Va.dp : ∀ (d : D) (v : V), d.canLay0 = true → Va H Av v d → Dp K H v d
  | .none, _, _, h => by cases h; exact .non
  | .bool b, _, _, h => by cases h; exact .bl b
  | .int i, _, _, h => by cases h; exact .int i
  | .str x, _, _, h => by cases h; exact .str x
  | .list ds, _, c, h => by
    cases h with
    | lst r n w => exact .lst (.inl r) (Vas.dp ds _ (by simpa [PyData.canLay0] using c) w)
  | .tuple ds, _, c, h => by
    cases h with
    | tup r n w => exact .tup (.inl r) (Vas.dp ds _ (by simpa [PyData.canLay0] using c) w)
  | .dict _, _, c, _ => by simp [PyData.canLay0] at c
theorem Vas.dp : ∀ (ds : List D) (vs : List V), PyData.canLayAll0 ds = true → Vas H Av vs ds → DpAll K H vs ds
  | [], _, _, h => by cases h; exact .nil
  | d :: ds, _, c, h => by
    simp only [PyData.canLayAll0, Bool.and_eq_true] at c
    cases h with
    | cons h1 h2 => exact .cons (Va.dp d _ c.1 h1) (Vas.dp ds _ c.2 h2)
end
theorem Vw.dp {v : V} {d : D} (c : d.canLay0 = true) (h : Vw H Av v d) : Dp K H v d := by
  rcases h with h | ⟨a, rfl, xs, ds, f1, rfl, f3⟩
  · exact h.dp d v c
  · exact .lst (.inl (.inl f1)) (Vas.dp ds _ (by simpa [PyData.canLay0] using c) f3)
end

/-! ### ints -/
def iOp (f : Int → Int → Option D) : D → D → Option D
  | .int i, .int j => f i j
  | _, _ => none
theorem p2_int {C : Int → Int → Prop} {g : Int → Int → V} {f : Int → Int → Option D} (h : ∀ i j d, f i j = some d → C i j ∧ ∀ H Av, Va H Av (g i j) d) : P2 (rI C g) (iOp f) := by
  intro H Av v u x y d Q t hx hy hf k
  unfold iOp at hf
  split at hf
  · rename_i i j
    obtain ⟨h1, h2⟩ := h i j d hf
    exact ⟨i, j, hx.int, hy.int, h1, k _ H (Same.refl H) (h2 H Av)⟩
  · cases hf
theorem p2_int0 {g : Int → Int → V} {f : Int → Int → Option D} (h : ∀ i j d, f i j = some d → ∀ H Av, Va H Av (g i j) d) : P2 (rI0 g) (iOp f) := by
  intro H Av v u x y d Q t hx hy hf k
  unfold iOp at hf
  split at hf
  · rename_i i j
    exact ⟨i, j, hx.int, hy.int, k _ H (Same.refl H) (h i j d hf H Av)⟩
  · cases hf
def dSub : D → D → Option D := iOp fun i j => some (.int (i - j))
def dMod : D → D → Option D := iOp fun i j => if 0 < j then some (.int (i % j)) else none
def dDiv : D → D → Option D := iOp fun i j => if 0 < j ∧ j.natAbs.log2 < 9000 then some (.int (i / j)) else none
def dPow : D → D → Option D := iOp fun i j => if 0 ≤ j ∧ j ≤ 1000000 ∧ i.natAbs < 2 ^ 64 then some (.int (i ^ j.toNat)) else none
def dLt : D → D → Option D := iOp fun i j => some (.bool (decide (i < j)))
def dLe : D → D → Option D := iOp fun i j => some (.bool (decide (i ≤ j)))
def dGt : D → D → Option D := iOp fun i j => some (.bool (decide (j < i)))
def dGe : D → D → Option D := iOp fun i j => some (.bool (decide (j ≤ i)))
theorem p2_sub : P2 (rI0 fun i j => .int (i - j)) dSub := p2_int0 fun i j d e H Av => by cases e; exact .int _
theorem p2_mod : P2 (rI (fun _ j => 0 < j) fun i j => .int (i % j)) dMod := p2_int fun i j d e => by
  split at e
  · rename_i h; cases e; exact ⟨h, fun H Av => .int _⟩
  · cases e
theorem p2_div : P2 (rI CDivW fun i j => .int (i / j)) dDiv := p2_int fun i j d e => by
  split at e
  · rename_i h; cases e; exact ⟨h, fun H Av => .int _⟩
  · cases e
theorem p2_pow : P2 (rI CPow fun i j => .int (i ^ j.toNat)) dPow := p2_int fun i j d e => by
  split at e
  · rename_i h; cases e; exact ⟨h, fun H Av => .int _⟩
  · cases e
theorem p2_lt : P2 (rI0 fun i j => .bl (decide (i < j))) dLt := p2_int0 fun i j d e H Av => by cases e; exact .bl _
theorem p2_le : P2 (rI0 fun i j => .bl (decide (i ≤ j))) dLe := p2_int0 fun i j d e H Av => by cases e; exact .bl _
theorem p2_gt : P2 (rI0 fun i j => .bl (decide (j < i))) dGt := p2_int0 fun i j d e H Av => by cases e; exact .bl _
theorem p2_ge : P2 (rI0 fun i j => .bl (decide (j ≤ i))) dGe := p2_int0 fun i j d e H Av => by cases e; exact .bl _
/-! ### + * == -/
def dAddI : D → D → Option D := iOp fun i j => some (.int (i + j))
def dAddS : D → D → Option D
  | .str x, .str y => if x.length + y.length ≤ 16777216 then some (.str (x ++ y)) else none
  | _, _ => none
def dAddT : D → D → Option D
  | .tuple x, .tuple y => if x.length + y.length ≤ 16777216 then some (.tuple (x ++ y)) else none
  | _, _ => none
def dAdd : D → D → Option D
  | .int i, .int j => some (.int (i + j))
  | .str x, .str y => if x.length + y.length ≤ 16777216 then some (.str (x ++ y)) else none
  | .tuple x, .tuple y => if x.length + y.length ≤ 16777216 then some (.tuple (x ++ y)) else none
  | _, _ => none
def dCat : D → D → Option D
  | .list x, .list y => if x.length + y.length ≤ 16777216 then some (.list (x ++ y)) else none
  | _, _ => none
theorem p2_addI : P2 (rI0 fun i j => .int (i + j)) dAddI := p2_int0 fun i j d e H Av => by cases e; exact .int _
theorem p2_addS : P2 (fun x y H Q => ∃ i j, x = .str i ∧ y = .str j ∧ i.length + j.length ≤ sizeLine ∧ Q (.str (i ++ j)) H) dAddS := by
  intro H Av v u x y d Q t hx hy hf k
  unfold dAddS at hf
  split at hf
  · split at hf
    · rename_i hl
      cases hf
      exact ⟨_, _, hx.str, hy.str, line_le hl, k _ H (Same.refl H) (.str _)⟩
    · cases hf
  · cases hf
theorem p2_addT {K : PySem.W.Frag} : P2 (rCatA K) dAddT := by
  intro H Av v u x y d Q t hx hy hf k
  unfold dAddT at hf
  split at hf
  · split at hf
    · rename_i hl
      cases hf
      obtain ⟨a, xs, rfl, r1, n1, w1⟩ := hx.tup
      obtain ⟨b, ys, rfl, r2, n2, w2⟩ := hy.tup
      refine ⟨a, b, xs, ys, rfl, rfl, .inl r1, .inl r2, line_le (by rw [w1.len, w2.len]; exact hl), fun e => ?_, fun e1 e2 => ?_, fun e1 e2 p hp => ?_⟩
      · subst e
        cases w1
        exact k _ H (Same.refl H) (by rw [List.nil_append]; exact .tup r2 n2 w2)
      · subst e2
        cases w2
        exact k _ H (Same.refl H) (by rw [List.append_nil]; exact .tup r1 n1 w1)
      · have s := same_upd (o := .tup (xs ++ ys)) hp
        exact k _ _ s (.tup (.inl upd_same) (t.new hp) ((w1.append w2).same s))
    · cases hf
  · cases hf
theorem p2_add {K : PySem.W.Frag} : P2 (or2 (or2 (rI0 fun i j => .int (i + j)) (fun x y H Q => ∃ i j, x = .str i ∧ y = .str j ∧ i.length + j.length ≤ sizeLine ∧ Q (.str (i ++ j)) H)) (rCatA K)) dAdd :=
  P2.or (h := dAdd) (P2.or (h := fun x y => match dAddI x y with
    | some d => some d
    | none => dAddS x y) p2_addI p2_addS fun x y d e => by
      split at e
      · rename_i d' h; cases e; exact .inl h
      · exact .inr e) p2_addT fun x y d e => by
    unfold dAdd at e
    split at e
    · left
      cases e
      rfl
    · left
      exact e
    · right
      exact e
    · cases e
theorem p2n_cat {K : PySem.W.Frag} : P2n (rCatL K) dCat := by
  intro H Av v u x y d Q t hx hy hf k
  unfold dCat at hf
  split at hf
  · split at hf
    · rename_i hl
      cases hf
      obtain ⟨a, xs, rfl, r1, w1⟩ := hx.list
      obtain ⟨b, ys, rfl, r2, w2⟩ := hy.list
      refine ⟨a, b, xs, ys, rfl, rfl, .inl r1, .inl r2, line_le (by rw [w1.len, w2.len]; exact hl), fun p hp => ?_⟩
      have s := same_upd (o := .lst (xs ++ ys)) hp
      exact k p _ s hp (fun b hb => upd_ne hb) ⟨_, _, upd_same, rfl, ((w1.append w2).notnew hp).same s⟩
    · cases hf
  · cases hf
def dMul : D → D → Option D
  | .int i, .int j => if i.natAbs.log2 + j.natAbs.log2 < 1000000 then some (.int (i * j)) else none
  | .tuple (x :: xs), .int k => if -1000 ≤ k ∧ k ≤ 1000 ∧ xs.length < 1000 then some (.tuple (List.replicate k.toNat (x :: xs)).flatten) else none
  | _, _ => none
theorem Vas.flat {H : Hp} {Av : Addr → Prop} {vs : List V} {ds : List D} (w : Vas H Av vs ds) : ∀ n : Nat, Vas H Av (List.replicate n vs).flatten (List.replicate n ds).flatten
  | 0 => .nil
  | n + 1 => by
    rw [List.replicate_succ, List.replicate_succ, List.flatten_cons, List.flatten_cons]
    exact w.append (Vas.flat w n)
theorem p2_mul {K : PySem.W.Frag} : P2 (or2 (rI CMulW fun i j => .int (i * j)) (rRepA K)) dMul := by
  intro H Av v u x y d Q t hx hy hf k
  unfold dMul at hf
  split at hf
  · rename_i i j
    split at hf
    · rename_i h
      cases hf
      exact .inl ⟨i, j, hx.int, hy.int, h, k _ H (Same.refl H) (.int _)⟩
    · cases hf
  · rename_i z zs n
    split at hf
    · rename_i h
      cases hf
      right
      obtain ⟨a, xs, rfl, r1, n1, w1⟩ := hx.tup
      refine ⟨a, n, xs, rfl, hy.int, .inl r1, fun e => ?_, h.1, h.2.1, by rw [w1.len, List.length_cons]; omega, fun e => ?_, fun e p hp => ?_⟩
      · subst e
        cases w1
      · subst e
        refine k _ H (Same.refl H) (.tup r1 n1 ?_)
        simpa using w1
      · have s := same_upd (o := .tup (List.replicate n.toNat xs).flatten) hp
        exact k _ _ s (.tup (.inl upd_same) (t.new hp) ((w1.flat _).same s))
    · cases hf
  · cases hf
def dEqD (x y : D) : Option D := if SeqAt.shaped x = true ∧ SeqAt.shaped y = true then some (.bool (PyData.eqv x y)) else none
def dNeD (x y : D) : Option D := if SeqAt.shaped x = true ∧ SeqAt.shaped y = true then some (.bool (!PyData.eqv x y)) else none
/-- two texts, whatever they hold -/
def dEqS : D → D → Option D
  | .str a, .str b => some (.bool (decide (V.str a = V.str b)))
  | _, _ => none
def dNeS : D → D → Option D
  | .str a, .str b => some (.bool (!decide (V.str a = V.str b)))
  | _, _ => none
def dEq (x y : D) : Option D := match dEqS x y with
  | some d => some d
  | none => dEqD x y
def dNe (x y : D) : Option D := match dNeS x y with
  | some d => some d
  | none => dNeD x y
theorem p2_eqS : P2 rEq dEqS := by
  intro H Av v u x y d Q t hx hy hf k
  unfold dEqS at hf
  split at hf
  · cases hf
    rw [hx.str, hy.str]
    exact ⟨rfl, k _ H (Same.refl H) (.bl _)⟩
  · cases hf
theorem p2_neS : P2 rNe dNeS := by
  intro H Av v u x y d Q t hx hy hf k
  unfold dNeS at hf
  split at hf
  · cases hf
    rw [hx.str, hy.str]
    exact ⟨rfl, k _ H (Same.refl H) (.bl _)⟩
  · cases hf
theorem p2_eqD {K : PySem.W.Frag} : P2 (rEqD K) dEqD := by
  intro H Av v u x y d Q t hx hy hf k
  unfold dEqD at hf
  split at hf
  · rename_i h
    cases hf
    exact ⟨x, y, hx.dp (SeqAt.canLay_of_shaped h.1), hy.dp (SeqAt.canLay_of_shaped h.2), h.1, h.2, k _ H (Same.refl H) (.bl _)⟩
  · cases hf
theorem p2_neD {K : PySem.W.Frag} : P2 (rNeD K) dNeD := by
  intro H Av v u x y d Q t hx hy hf k
  unfold dNeD at hf
  split at hf
  · rename_i h
    cases hf
    exact ⟨x, y, hx.dp (SeqAt.canLay_of_shaped h.1), hy.dp (SeqAt.canLay_of_shaped h.2), h.1, h.2, k _ H (Same.refl H) (.bl _)⟩
  · cases hf
theorem p2_eq {K : PySem.W.Frag} : P2 (or2 rEq (rEqD K)) dEq := P2.or p2_eqS p2_eqD fun x y d e => by
  unfold dEq at e
  split at e
  · rename_i d' h; cases e; exact .inl h
  · exact .inr e
theorem p2_ne {K : PySem.W.Frag} : P2 (or2 rNe (rNeD K)) dNe := P2.or p2_neS p2_neD fun x y d e => by
  unfold dNe at e
  split at e
  · rename_i d' h; cases e; exact .inl h
  · exact .inr e
/-- in: a list of data; a tuple of flat things -/
def flatD : D → Bool
  | .none => true
  | .bool _ => true
  | .int _ => true
  | .str _ => true
  | _ => false
theorem Va.flat {H : Hp} {Av : Addr → Prop} {v : V} {d : D} (h : Va H Av v d) (e : flatD d = true) : flatV v = true := by
  cases h <;> first | rfl | cases e
def vOf : D → V
  | .none => .non
  | .bool b => .bl b
  | .int i => .int i
  | .str x => .str x
  | _ => .non
theorem Va.vOf {H : Hp} {Av : Addr → Prop} {v : V} {d : D} (h : Va H Av v d) (e : flatD d = true) : v = Fw.vOf d := by
  cases h <;> first | rfl | cases e
theorem Vas.vOf {H : Hp} {Av : Addr → Prop} : ∀ {vs : List V} {ds : List D}, Vas H Av vs ds → ds.all flatD = true → vs = ds.map Fw.vOf
  | _, _, .nil, _ => rfl
  | _, _, .cons h t, e => by
    simp only [List.all_cons, Bool.and_eq_true] at e
    rw [List.map_cons, ← h.vOf e.1, ← Vas.vOf t e.2]
theorem flat_vOf {d : D} (e : flatD d = true) : flatV (vOf d) = true := by
  cases d <;> first | rfl | cases e
def dIn : D → D → Option D
  | x, .list ys => if SeqAt.shaped x = true ∧ SeqAt.shaped (.list ys) = true then some (.bool (ys.any fun z => PyData.eqv z x)) else none
  | x, .tuple ys => if flatD x = true ∧ ys.all flatD = true then some (.bool (inV (vOf x) (ys.map vOf))) else none
  | _, _ => none
def dNotIn : D → D → Option D
  | x, .list ys => if SeqAt.shaped x = true ∧ SeqAt.shaped (.list ys) = true then some (.bool (!ys.any fun z => PyData.eqv z x)) else none
  | x, .tuple ys => if flatD x = true ∧ ys.all flatD = true then some (.bool (!inV (vOf x) (ys.map vOf))) else none
  | _, _ => none
theorem all_flat {ds : List D} (h : ds.all flatD = true) : (ds.map vOf).all flatV = true := by
  rw [List.all_map, List.all_eq_true]
  intro x hx
  exact flat_vOf (List.all_eq_true.mp h x hx)
theorem p2_in {K : PySem.W.Frag} : P2 (or2 (rInD K) (rIn K false)) dIn := by
  intro H Av v u x y d Q t hx hy hf k
  unfold dIn at hf
  split at hf
  · rename_i ys
    split at hf
    · rename_i h
      cases hf
      exact .inl ⟨x, ys, hx.dp (SeqAt.canLay_of_shaped h.1), hy.dp (SeqAt.canLay_of_shaped h.2), h.1, h.2, k _ H (Same.refl H) (.bl _)⟩
    · cases hf
  · rename_i ys
    split at hf
    · rename_i h
      cases hf
      have hxa : Va H Av v x := hx.noList fun ds e => by subst e; cases h.1
      obtain ⟨a, xs, rfl, r1, n1, w1⟩ := hy.tup
      have e1 := hxa.vOf h.1
      have e2 := w1.vOf h.2
      subst e1 e2
      exact .inr ⟨a, _, rfl, .inr (.inl r1), flat_vOf h.1, all_flat h.2, k _ H (Same.refl H) (.bl _)⟩
    · cases hf
  · cases hf
theorem p2_notIn {K : PySem.W.Frag} : P2 (or2 (rNotInD K) (rIn K true)) dNotIn := by
  intro H Av v u x y d Q t hx hy hf k
  unfold dNotIn at hf
  split at hf
  · rename_i ys
    split at hf
    · rename_i h
      cases hf
      exact .inl ⟨x, ys, hx.dp (SeqAt.canLay_of_shaped h.1), hy.dp (SeqAt.canLay_of_shaped h.2), h.1, h.2, k _ H (Same.refl H) (.bl _)⟩
    · cases hf
  · rename_i ys
    split at hf
    · rename_i h
      cases hf
      have hxa : Va H Av v x := hx.noList fun ds e => by subst e; cases h.1
      obtain ⟨a, xs, rfl, r1, n1, w1⟩ := hy.tup
      have e1 := hxa.vOf h.1
      have e2 := w1.vOf h.2
      subst e1 e2
      exact .inr ⟨a, _, rfl, .inr (.inl r1), flat_vOf h.1, all_flat h.2, k _ H (Same.refl H) (.bl _)⟩
    · cases hf
  · cases hf
/-! ### is None -/
def isNone : D → Bool
  | .none => true
  | _ => false
def dIs : D → D → Option D
  | x, .none => some (.bool (isNone x))
  | _, _ => none
def dIsNot : D → D → Option D
  | x, .none => some (.bool (!isNone x))
  | _, _ => none
theorem Vw.isN {H : Hp} {Av : Addr → Prop} {v : V} {d : D} (h : Vw H Av v d) : decide (v = V.non) = isNone d := by
  rcases h with h | ⟨a, rfl, _, ds, _, rfl, _⟩
  · cases h <;> rfl
  · rfl
theorem p2_is : P2 (fun x y H Q => y = .non ∧ Q (.bl (decide (x = .non))) H) dIs := by
  intro H Av v u x y d Q t hx hy hf k
  unfold dIs at hf
  split at hf
  · cases hf
    exact ⟨hy.non, by rw [hx.isN]; exact k _ H (Same.refl H) (.bl _)⟩
  · cases hf
theorem p2_isNot : P2 (fun x y H Q => y = .non ∧ Q (.bl (!decide (x = .non))) H) dIsNot := by
  intro H Av v u x y d Q t hx hy hf k
  unfold dIsNot at hf
  split at hf
  · cases hf
    exact ⟨hy.non, by rw [hx.isN]; exact k _ H (Same.refl H) (.bl _)⟩
  · cases hf
def dNeg : D → Option D
  | .int i => some (.int (-i))
  | _ => none
theorem p1_neg : P1 (rU fun i => .int (-i)) dNeg := by
  intro H Av v x d Q t hx hf k
  unfold dNeg at hf
  split at hf
  · cases hf
    exact ⟨_, hx.int, k _ H (Same.refl H) (.int _)⟩
  · cases hf

/-! ### built-in functions -/
theorem vws1 {H : Hp} {Av : Addr → Prop} {vs : List V} {x : D} (h : Vws H Av vs [x]) : ∃ v, vs = [v] ∧ Vw H Av v x := by
  cases vs with
  | nil => exact h.elim
  | cons v vs =>
    cases vs with
    | nil => exact ⟨v, rfl, h.1⟩
    | cons => exact h.2.elim
theorem vws2 {H : Hp} {Av : Addr → Prop} {vs : List V} {x y : D} (h : Vws H Av vs [x, y]) : ∃ v u, vs = [v, u] ∧ Vw H Av v x ∧ Vw H Av u y := by
  cases vs with
  | nil => exact h.elim
  | cons v vs =>
    obtain ⟨u, rfl, h2⟩ := vws1 h.2
    exact ⟨v, u, rfl, h.1, h2⟩
def f1 (f : D → Option D) : List D → Option D
  | [x] => f x
  | _ => none
def f2 (f : D → D → Option D) : List D → Option D
  | [x, y] => f x y
  | _ => none
def dLen : D → Option D
  | .str x => if x.length ≤ 16777216 then some (.int x.length) else none
  | .list xs => some (.int xs.length)
  | .tuple xs => some (.int xs.length)
  | _ => none
theorem pl_len {K : PySem.W.Frag} : PL (fun xs H Q => ∃ x n, xs = [x] ∧ LenV K x H n ∧ Q (.int n) H) (f1 dLen) := by
  intro H Av vs xs d Q t hx hf k
  unfold f1 at hf
  split at hf
  · obtain ⟨v, rfl, hw⟩ := vws1 hx
    unfold dLen at hf
    split at hf
    · split at hf
      · rename_i h
        cases hf
        rw [hw.str]
        exact ⟨_, _, rfl, ⟨line_le h, rfl⟩, k _ H (Same.refl H) (.int _)⟩
      · cases hf
    · cases hf
      obtain ⟨a, xs, rfl, r, w⟩ := hw.list
      refine ⟨_, xs.length, rfl, .inl ⟨_, .inl r, rfl⟩, ?_⟩
      rw [w.len]
      exact k _ H (Same.refl H) (.int _)
    · cases hf
      obtain ⟨a, xs, rfl, r, n, w⟩ := hw.tup
      refine ⟨_, xs.length, rfl, .inr ⟨_, .inl r, rfl⟩, ?_⟩
      rw [w.len]
      exact k _ H (Same.refl H) (.int _)
    · cases hf
  · cases hf
def dAbs : D → Option D
  | .int i => some (.int (if i < 0 then -i else i))
  | _ => none
theorem pl_abs : PL (fun xs H Q => ∃ i, xs = [.int i] ∧ Q (.int (if i < 0 then -i else i)) H) (f1 dAbs) := by
  intro H Av vs xs d Q t hx hf k
  unfold f1 at hf
  split at hf
  · obtain ⟨v, rfl, hw⟩ := vws1 hx
    unfold dAbs at hf
    split at hf
    · cases hf
      rw [hw.int]
      exact ⟨_, rfl, k _ H (Same.refl H) (.int _)⟩
    · cases hf
  · cases hf
/-- int(n), int(flag) -/
def dInt : D → Option D
  | .int i => some (.int i)
  | .bool k => some (.int (if k then 1 else 0))
  | _ => none
theorem pl_int : PL (fun xs H Q => (∃ i, xs = [.int i] ∧ Q (.int i) H) ∨ ∃ k, xs = [.bl k] ∧ Q (.int (if k then 1 else 0)) H) (f1 dInt) := by
  intro H Av vs xs d Q t hx hf k
  unfold f1 at hf
  split at hf
  · obtain ⟨v, rfl, hw⟩ := vws1 hx
    unfold dInt at hf
    split at hf
    · cases hf
      rw [hw.int]
      exact .inl ⟨_, rfl, k _ H (Same.refl H) (.int _)⟩
    · cases hf
      rw [hw.bool]
      exact .inr ⟨_, rfl, k _ H (Same.refl H) (.int _)⟩
    · cases hf
  · cases hf
/-- int(text) besides -/
def dIntS : D → Option D
  | .str x => if x.length ≤ 640 then (PySem.intText? x).map .int else none
  | _ => none
theorem pl_intS : PL (fun vs H Q => ∃ a n, vs = [.str a] ∧ PySem.intText? a = some n ∧ a.length ≤ 640 ∧ Q (.int n) H) (f1 dIntS) := by
  intro H Av vs xs d Q t hx hf k
  unfold f1 at hf
  split at hf
  · obtain ⟨v, rfl, hw⟩ := vws1 hx
    unfold dIntS at hf
    split at hf
    · rename_i z
      split at hf
      · rename_i h
        cases e : PySem.intText? z with
        | none => rw [e] at hf; cases hf
        | some n =>
          rw [e] at hf
          cases hf
          rw [hw.str]
          exact ⟨_, n, rfl, e, h, k _ H (Same.refl H) (.int _)⟩
      · cases hf
    · cases hf
  · cases hf
def dStr : D → Option D
  | .int i => if i.natAbs.log2 < 1920 then some (.str (toString i)) else none
  | _ => none
theorem pl_str : PL (fun xs H Q => ∃ i, xs = [.int i] ∧ i.natAbs.log2 < 1920 ∧ Q (.str (toString i)) H) (f1 dStr) := by
  intro H Av vs xs d Q t hx hf k
  unfold f1 at hf
  split at hf
  · obtain ⟨v, rfl, hw⟩ := vws1 hx
    unfold dStr at hf
    split at hf
    · split at hf
      · rename_i h
        cases hf
        rw [hw.int]
        exact ⟨_, rfl, h, k _ H (Same.refl H) (.str _)⟩
      · cases hf
    · cases hf
  · cases hf
def dMin2 : D → D → Option D
  | .int i, .int j => some (.int (if j < i then j else i))
  | _, _ => none
def dMax2 : D → D → Option D
  | .int i, .int j => some (.int (if j > i then j else i))
  | _, _ => none
theorem pl_min2 : PL (fun xs H Q => ∃ i j, xs = [.int i, .int j] ∧ Q (.int (if j < i then j else i)) H) (f2 dMin2) := by
  intro H Av vs xs d Q t hx hf k
  unfold f2 at hf
  split at hf
  · obtain ⟨v, u, rfl, hw, hw2⟩ := vws2 hx
    unfold dMin2 at hf
    split at hf
    · cases hf
      rw [hw.int, hw2.int]
      exact ⟨_, _, rfl, k _ H (Same.refl H) (.int _)⟩
    · cases hf
  · cases hf
theorem pl_max2 : PL (fun xs H Q => ∃ i j, xs = [.int i, .int j] ∧ Q (.int (if j > i then j else i)) H) (f2 dMax2) := by
  intro H Av vs xs d Q t hx hf k
  unfold f2 at hf
  split at hf
  · obtain ⟨v, u, rfl, hw, hw2⟩ := vws2 hx
    unfold dMax2 at hf
    split at hf
    · cases hf
      rw [hw.int, hw2.int]
      exact ⟨_, _, rfl, k _ H (Same.refl H) (.int _)⟩
    · cases hf
  · cases hf
def dList : D → Option D
  | .list xs => some (.list xs)
  | .tuple xs => some (.list xs)
  | _ => none
theorem pln_list {K : PySem.W.Frag} : PLn (fun xs H Q => ∃ p ys, xs = [.ref p] ∧ (SqL K H p ys ∨ SqT K H p ys) ∧ ∀ l, H l = none → Q (.ref l) (upd H l (.lst ys))) (f1 dList) := by
  intro H Av vs xs d Q t hx hf k
  unfold f1 at hf
  split at hf
  · obtain ⟨v, rfl, hw⟩ := vws1 hx
    unfold dList at hf
    split at hf
    · cases hf
      obtain ⟨a, xs, rfl, r, w⟩ := hw.list
      refine ⟨_, _, rfl, .inl (.inl r), fun p hp => ?_⟩
      have s := same_upd (o := .lst xs) hp
      exact k p _ s hp ⟨_, _, upd_same, rfl, (w.notnew hp).same s⟩
    · cases hf
      obtain ⟨a, xs, rfl, r, n, w⟩ := hw.tup
      refine ⟨_, _, rfl, .inr (.inl r), fun p hp => ?_⟩
      have s := same_upd (o := .lst xs) hp
      exact k p _ s hp ⟨_, _, upd_same, rfl, (w.notnew hp).same s⟩
    · cases hf
  · cases hf
def dTuple : D → Option D
  | .list xs => some (.tuple xs)
  | .tuple xs => some (.tuple xs)
  | _ => none
theorem pl_tuple {K : PySem.W.Frag} : PL (fun xs H Q => ∃ p ys, xs = [.ref p] ∧ ((SqL K H p ys ∧ ∀ l, H l = none → Q (.ref l) (upd H l (.tup ys))) ∨ (SqT K H p ys ∧ Q (.ref p) H))) (f1 dTuple) := by
  intro H Av vs xs d Q t hx hf k
  unfold f1 at hf
  split at hf
  · obtain ⟨v, rfl, hw⟩ := vws1 hx
    unfold dTuple at hf
    split at hf
    · cases hf
      obtain ⟨a, xs, rfl, r, w⟩ := hw.list
      refine ⟨_, _, rfl, .inl ⟨.inl r, fun p hp => ?_⟩⟩
      have s := same_upd (o := .tup xs) hp
      exact k _ _ s (.tup (.inl upd_same) (t.new hp) (w.same s))
    · cases hf
      obtain ⟨a, xs, rfl, r, n, w⟩ := hw.tup
      exact ⟨_, _, rfl, .inr ⟨.inl r, k _ H (Same.refl H) (.tup r n w)⟩⟩
    · cases hf
  · cases hf
/-- sum, all, any of lists -/
def intsD : List D → Option (List Int)
  | [] => some []
  | .int i :: ds => (intsD ds).map (i :: ·)
  | _ => none
theorem intsD_some : ∀ {ds : List D} {ns : List Int}, intsD ds = some ns → ds = ns.map .int
  | [], ns, h => by cases h; rfl
  | .int i :: ds, ns, h => by
    unfold intsD at h
    cases e : intsD ds with
    | none => rw [e] at h; cases h
    | some ms =>
      rw [e] at h
      cases h
      rw [intsD_some e]
      rfl
theorem Vas.ints {H : Hp} {Av : Addr → Prop} : ∀ {vs : List V} {ns : List Int}, Vas H Av vs (ns.map PyData.int) → vs = ns.map V.int
  | _, [], .nil => rfl
  | _, n :: ns, .cons h t => by
    cases h
    rw [List.map_cons, ← Vas.ints t]
def boolsD : List D → Option (List Bool)
  | [] => some []
  | .bool i :: ds => (boolsD ds).map (i :: ·)
  | _ => none
theorem boolsD_some : ∀ {ds : List D} {ns : List Bool}, boolsD ds = some ns → ds = ns.map .bool
  | [], ns, h => by cases h; rfl
  | .bool i :: ds, ns, h => by
    unfold boolsD at h
    cases e : boolsD ds with
    | none => rw [e] at h; cases h
    | some ms =>
      rw [e] at h
      cases h
      rw [boolsD_some e]
      rfl
theorem Vas.bools {H : Hp} {Av : Addr → Prop} : ∀ {vs : List V} {ns : List Bool}, Vas H Av vs (ns.map PyData.bool) → vs = ns.map V.bl
  | _, [], .nil => rfl
  | _, n :: ns, .cons h t => by
    cases h
    rw [List.map_cons, ← Vas.bools t]
def dSum : D → Option D
  | .list xs => (intsD xs).map fun ns => .int ns.sum
  | _ => none
theorem pl_sum {K : PySem.W.Frag} : PL (rSum K) (f1 dSum) := by
  intro H Av vs xs d Q t hx hf k
  unfold f1 at hf
  split at hf
  · obtain ⟨v, rfl, hw⟩ := vws1 hx
    unfold dSum at hf
    split at hf
    · rename_i ys
      cases e : intsD ys with
      | none => rw [e] at hf; cases hf
      | some ns =>
        rw [e] at hf
        cases hf
        have e' := intsD_some e
        subst e'
        obtain ⟨a, xs, rfl, r, w⟩ := hw.list
        have := w.ints
        subst this
        exact ⟨a, ns, rfl, .inl r, k _ H (Same.refl H) (.int _)⟩
    · cases hf
  · cases hf
def dAll : D → Option D
  | .list xs => (boolsD xs).map fun bs => .bool (bs.all id)
  | _ => none
def dAny : D → Option D
  | .list xs => (boolsD xs).map fun bs => .bool (bs.any id)
  | _ => none
theorem pl_all {K : PySem.W.Frag} : PL (rAll K) (f1 dAll) := by
  intro H Av vs xs d Q t hx hf k
  unfold f1 at hf
  split at hf
  · obtain ⟨v, rfl, hw⟩ := vws1 hx
    unfold dAll at hf
    split at hf
    · rename_i ys
      cases e : boolsD ys with
      | none => rw [e] at hf; cases hf
      | some ns =>
        rw [e] at hf
        cases hf
        have e' := boolsD_some e
        subst e'
        obtain ⟨a, xs, rfl, r, w⟩ := hw.list
        have := w.bools
        subst this
        exact ⟨a, ns, rfl, .inl r, k _ H (Same.refl H) (.bl _)⟩
    · cases hf
  · cases hf
theorem pl_any {K : PySem.W.Frag} : PL (rAny K) (f1 dAny) := by
  intro H Av vs xs d Q t hx hf k
  unfold f1 at hf
  split at hf
  · obtain ⟨v, rfl, hw⟩ := vws1 hx
    unfold dAny at hf
    split at hf
    · rename_i ys
      cases e : boolsD ys with
      | none => rw [e] at hf; cases hf
      | some ns =>
        rw [e] at hf
        cases hf
        have e' := boolsD_some e
        subst e'
        obtain ⟨a, xs, rfl, r, w⟩ := hw.list
        have := w.bools
        subst this
        exact ⟨a, ns, rfl, .inl r, k _ H (Same.refl H) (.bl _)⟩
    · cases hf
  · cases hf
end Fw
set_option Elab.async false
set_option linter.all false
set_option maxRecDepth 100000
/-! Fw9: slices, chains, stores into owned lists, assignments of several names, methods of texts. -/
namespace Fw
open PySem PySem.Spec PyProof.Rows L2

section
variable {c : Ctx} {e a b d' : Expr} {es : List Expr} {pos px p2 : Pos} {m ma mb mc : EM} {mr : AM}
/-! ### slices -/
abbrev OM := Env → Option (Option Int × Env)
def oN : OM := fun e => some (none, e)
def oS (m : EM) : OM := fun e => match m e with
  | some (.int i, e1) => some (some i, e1)
  | _ => none
def RO (c : Ctx) (e : Option Expr) (m : OM) : Prop :=
  ∃ t : TO, (∀ X, InC c X → PO X e t) ∧ ∀ (W : Wd) (own : List (Nat × Addr)) (σ : St) (H : Hp) (env : Env) (d : Option Int) (env' : Env) (Q : Option Int → Hp → Prop), Fit c W → Good W own σ H env → m env = some (d, env') →
    (∀ H', Ex W H H' → Good W own σ H' env' → Q d H') → t σ H Q
theorem ro_n : RO c none oN := ⟨tNoPart, fun _ _ => po_none, fun W own σ H env d env' Q f G e q => by cases e; exact q _ (Ex.refl H) G⟩
theorem ro_s (h : RE c a m) : RO c (some a) (oS m) := by
  obtain ⟨t, p, h⟩ := h
  refine ⟨tPart t, fun X hX => po_some (p X hX), fun W own σ H env d env' Q f G e q => ?_⟩
  unfold oS at e
  split at e
  · rename_i i e1 h1
    cases e
    refine h W own σ H env _ _ _ f G h1 fun v H' x G' w => ?_
    cases w
    exact ⟨i, rfl, q H' x G'⟩
  · cases e
def cutD (xs : List D) (lo hi : Option Int) : List D := (xs.drop (HT.sIx xs.length 0 lo)).take (HT.sIx xs.length xs.length hi - HT.sIx xs.length 0 lo)
def eS (f : D → Option Int → Option Int → Option D) (ma : EM) (ml mh : OM) : EM := fun e => match ma e with
  | some (x, e1) => match ml e1 with
    | some (lo, e2) => match mh e2 with
      | some (hi, e3) => match f x lo hi with
        | some z => some (z, e3)
        | none => none
      | none => none
    | none => none
  | none => none
/-- a slice of a tuple or a text -/
def dCut : D → Option Int → Option Int → Option D
  | .tuple xs, lo, hi => some (.tuple (cutD xs lo hi))
  | .str z, lo, hi => if z.length ≤ 16777216 then some (.str (cutS z lo hi)) else none
  | _, _, _ => none
def dCutL : D → Option Int → Option Int → Option D
  | .list xs, lo, hi => some (.list (cutD xs lo hi))
  | _, _, _ => none
theorem Vas.cut {H : Hp} {Av : Addr → Prop} {vs : List V} {ds : List D} (w : Vas H Av vs ds) (lo hi : Option Int) : Vas H Av (cutV vs lo hi) (cutD ds lo hi) := by
  unfold cutV cutD
  rw [w.len]
  exact (w.drop _).take _
variable {ml mh : OM} {lo hi : Option Expr}
theorem eS_some {f : D → Option Int → Option Int → Option D} {env env' : Env} {d : D} (h : eS f ma ml mh env = some (d, env')) : ∃ x e1 l e2 u, ma env = some (x, e1) ∧ ml e1 = some (l, e2) ∧ mh e2 = some (u, env') ∧ f x l u = some d := by
  unfold eS at h
  split at h
  · rename_i x e1 h1
    split at h
    · rename_i l e2 h2
      split at h
      · rename_i u e3 h3
        split at h
        · rename_i z h4
          cases h
          exact ⟨x, e1, l, e2, u, h1, h2, h3, h4⟩
        · cases h
      · cases h
    · cases h
  · cases h
theorem re_cut (ha : RW c a ma) (hl : RO c lo ml) (hh : RO c hi mh) : RE c (.Subscript a (.Slice lo hi none p2) pos) (eS dCut ma ml mh) := by
  obtain ⟨ta, pa, ha⟩ := ha
  obtain ⟨tl, pl, hl⟩ := hl
  obtain ⟨th, ph, hh⟩ := hh
  refine ⟨tSl (fun x lo hi H Q => rSlA c.K x lo hi H Q ∨ rSlS x lo hi H Q) ta tl th, fun X h => pe_slice (SlR.or (by rw [← h.k]; exact sl_tupA) sl_str) (pa X h) (pl X h) (ph X h), fun W own σ H env d env' Q ft G e q => ?_⟩
  obtain ⟨x, e1, l, e2, u, h1, h2, h3, h4⟩ := eS_some e
  refine ha W own σ H env x e1 _ ft G h1 fun v H1 x1 G1 w1 => hl W own σ H1 e1 l e2 _ ft G1 h2 fun H2 x2 G2 => hh W own σ H2 e2 u env' _ ft G2 h3 fun H3 x3 G3 => ?_
  have w3 : Vw H3 (Avd W own) v x := ((w1.ex G1 x2).ex G2 x3).vw
  have xx := (x1.trans x2).trans x3
  unfold dCut at h4
  split at h4
  · cases h4
    left
    obtain ⟨a, vs, rfl, r, n, w⟩ := w3.tup
    refine ⟨a, vs, rfl, .inl r, fun hw => ?_, fun hw p hp => ?_⟩
    · refine q _ H3 xx G3 (.tup r n ?_)
      have e1 := w.cut l u
      have e2 : cutV vs l u = vs := by
        unfold cutV
        rw [hw.1, hw.2, List.drop_zero, Nat.sub_zero, List.take_length]
      rw [e2] at e1
      exact e1
    · have s := same_upd (o := .tup (cutV vs l u)) hp
      exact q _ _ (xx.trans (Ex.same s)) (G3.same s) (.tup (.inl upd_same) (G3.trk.new hp) ((w.cut l u).same s))
  · split at h4
    · rename_i hz
      cases h4
      right
      exact ⟨_, w3.str, line_le hz, q _ H3 xx G3 (.str _)⟩
    · cases h4
  · cases h4
theorem rn_cut (ha : RW c a ma) (hl : RO c lo ml) (hh : RO c hi mh) : RN c (.Subscript a (.Slice lo hi none p2) pos) (eS dCutL ma ml mh) := by
  obtain ⟨ta, pa, ha⟩ := ha
  obtain ⟨tl, pl, hl⟩ := hl
  obtain ⟨th, ph, hh⟩ := hh
  refine ⟨tSl (rSlL c.K) ta tl th, fun X h => pe_slice (by rw [← h.k]; exact sl_list) (pa X h) (pl X h) (ph X h), fun W own σ H env d env' Q ft G e q => ?_⟩
  obtain ⟨x, e1, l, e2, u, h1, h2, h3, h4⟩ := eS_some e
  refine ha W own σ H env x e1 _ ft G h1 fun v H1 x1 G1 w1 => hl W own σ H1 e1 l e2 _ ft G1 h2 fun H2 x2 G2 => hh W own σ H2 e2 u env' _ ft G2 h3 fun H3 x3 G3 => ?_
  have w3 : Vw H3 (Avd W own) v x := ((w1.ex G1 x2).ex G2 x3).vw
  have xx := (x1.trans x2).trans x3
  unfold dCutL at h4
  split at h4
  · cases h4
    obtain ⟨a, vs, rfl, r, w⟩ := w3.list
    refine ⟨a, vs, rfl, .inl r, fun p hp => ?_⟩
    have s := same_upd (o := .lst (cutV vs l u)) hp
    exact q p _ (xx.trans (Ex.same s)) (Ex.new G3 xx hp) (G3.trk.new hp) ((G3.more hp).same s) ⟨_, _, upd_same, rfl, ((w.cut l u).notnew hp).same s⟩
  · cases h4

/-! ### a op b op c -/
def eCh (f f' : D → D → Option D) (ma mb mc : EM) : EM := fun e => match ma e with
  | some (x, e1) => match mb e1 with
    | some (y, e2) => match f x y with
      | some (.bool true) => match mc e2 with
        | some (z, e3) => match f' y z with
          | some d => some (d, e3)
          | none => none
        | none => none
      | some (.bool false) => some (.bool false, e2)
      | _ => none
    | none => none
  | none => none
theorem chain_core {r r' : R2} {f f' : D → D → Option D} {ta tb tc : TE} (hf : P2 r f) (hf' : P2 r' f')
    (ha : ∀ (W : Wd) (own : List (Nat × Addr)) (σ : St) (H : Hp) (env : Env) (d : D) (env' : Env) (Q : VK), Fit c W → Good W own σ H env → ma env = some (d, env') → (∀ v H', Ex W H H' → Good W own σ H' env' → Wk W own H' v d → Q v H') → ta σ H Q)
    (hb : ∀ (W : Wd) (own : List (Nat × Addr)) (σ : St) (H : Hp) (env : Env) (d : D) (env' : Env) (Q : VK), Fit c W → Good W own σ H env → mb env = some (d, env') → (∀ v H', Ex W H H' → Good W own σ H' env' → Wk W own H' v d → Q v H') → tb σ H Q)
    (hc : ∀ (W : Wd) (own : List (Nat × Addr)) (σ : St) (H : Hp) (env : Env) (d : D) (env' : Env) (Q : VK), Fit c W → Good W own σ H env → mc env = some (d, env') → (∀ v H', Ex W H H' → Good W own σ H' env' → Wk W own H' v d → Q v H') → tc σ H Q)
    {W : Wd} {own : List (Nat × Addr)} {σ : St} {H : Hp} {env env' : Env} {d : D} {Q : VK} (ft : Fit c W) (G : Good W own σ H env) (e : eCh f f' ma mb mc env = some (d, env'))
    (q : ∀ v H', Ex W H H' → Good W own σ H' env' → Va H' (Avd W own) v d → Q v H') : tChain r r' ta tb tc σ H Q := by
  unfold eCh at e
  split at e
  · rename_i x e1 h1
    split at e
    · rename_i y e2 h2
      split at e
      · rename_i h3
        split at e
        · rename_i z e3 h4
          split at e
          · rename_i d2 h5
            cases e
            refine ha W own σ H env x e1 _ ft G h1 fun v H1 x1 G1 w1 => hb W own σ H1 e1 y e2 _ ft G1 h2 fun u H2 x2 G2 w2 => ?_
            refine hf H2 (Avd W own) v u x y _ _ G2.trk (w1.ex G1 x2).vw w2.vw h3 fun k H3 s r => ⟨true, r.bool, ?_⟩
            rw [if_pos rfl]
            have G3 := G2.same s
            refine hc W own σ H3 e2 z _ _ ft G3 h4 fun t H4 x4 G4 w4 => ?_
            have w2' : Wk W own H4 u y := (w2.ex G2 (Ex.same s)).ex G3 x4
            exact hf' H4 (Avd W own) u t y z _ _ G4.trk w2'.vw w4.vw h5 fun k2 H5 s5 r5 => q k2 H5 (((x1.trans x2).trans (Ex.same s)).trans (x4.trans (Ex.same s5))) (G4.same s5) r5
          · cases e
        · cases e
      · rename_i h3
        cases e
        refine ha W own σ H env x e1 _ ft G h1 fun v H1 x1 G1 w1 => hb W own σ H1 e1 y _ _ ft G1 h2 fun u H2 x2 G2 w2 => ?_
        refine hf H2 (Avd W own) v u x y _ _ G2.trk (w1.ex G1 x2).vw w2.vw h3 fun k H3 s r => ⟨false, r.bool, ?_⟩
        rw [if_neg Bool.false_ne_true]
        exact q _ H3 ((x1.trans x2).trans (Ex.same s)) (G2.same s) (.bl false)
      · cases e
    · cases e
  · cases e
theorem re_chain {op op' : CmpOp} {r r' : R2} {f f' : D → D → Option D} (ho : ∀ X, InC c X → OpR X (compareOp op) r) (ho' : ∀ X, InC c X → OpR X (compareOp op') r') (hf : P2 r f) (hf' : P2 r' f') (ha : RW c a ma) (hb : RW c b mb) (hc : RW c d' mc)
    (hm : lastMarks [op, op'] [b, d'] = false := by with_unfolding_all rfl) : RE c (.Compare a [op, op'] [b, d'] pos) (eCh f f' ma mb mc) := by
  obtain ⟨ta, pa, ha⟩ := ha
  obtain ⟨tb, pb, hb⟩ := hb
  obtain ⟨tc, pc, hc⟩ := hc
  exact ⟨tChain r r' ta tb tc, fun X h => pe_chain (ho X h) (ho' X h) (pa X h) (pb X h) (pc X h) hm, fun W own σ H env d env' Q ft G e q => chain_core hf hf' ha hb hc ft G e q⟩
theorem rt_chain {op op' : CmpOp} {r r' : R2} {f f' : D → D → Option D} (ho : ∀ X, InC c X → OpR X (compareOp op) r) (ho' : ∀ X, InC c X → OpR X (compareOp op') r') (hf : P2 r f) (hf' : P2 r' f') (ha : RW c a ma) (hb : RW c b mb) (hc : RW c d' mc)
    (hm : lastMarks [op, op'] [b, d'] = false := by with_unfolding_all rfl) : RT c (.Compare a [op, op'] [b, d'] pos) (bV (eCh f f' ma mb mc)) := by
  obtain ⟨ta, pa, ha⟩ := ha
  obtain ⟨tb, pb, hb⟩ := hb
  obtain ⟨tc, pc, hc⟩ := hc
  exact ⟨tTest (tChain r r' ta tb tc), fun X h => pt_chain (ho X h) (ho' X h) (pa X h) (pb X h) (pc X h) hm, fun W own σ H env d env' Q ft G e q => chain_core hf hf' ha hb hc ft G (bV_some e) fun v H' x G' w => ⟨d, w.bool, q H' x G'⟩⟩
end

/-! ### an owned list is changed -/
section
variable {W : Wd} {own : List (Nat × Addr)} {σ : St} {H : Hp} {env : Env} {i : Nat} {a : Addr} {ys : List V} {es : List D}
theorem Rel.write (G : Good W own σ H env) (hin : (i, a) ∈ own) (w : Vas H (Avd W own) ys es) : Good W own σ (upd H a (.lst ys)) (env.set i (some (.list es))) := by
  have hav : Avd W own a := .inr (List.mem_map.mpr ⟨(i, a), hin, rfl⟩)
  have k1 : ∀ b o', H b = some o' → ¬ Avd W own b → (upd H a (.lst ys)) b = some o' := fun b o' e n => by rw [upd_ne fun (z : b = a) => n (z ▸ hav)]; exact e
  obtain ⟨f0, d1, f1, _⟩ := G.ow (i, a) hin
  have f1 : env[i]? = some (some d1) := f1
  have hi : i < env.length := (List.getElem?_eq_some_iff.mp f1).1
  refine ⟨by rw [List.length_set]; exact G.len, G.ns, G.na, fun p hp => ?_, fun j d e n => ?_, fun b o' e n => ?_, G.fr, G.pin, G.avt, fun _ h => h, G.osub, fun b hb => ?_, fun j hj d e => ?_⟩
  · by_cases hp' : p = (i, a)
    · subst hp'
      exact ⟨f0, _, List.getElem?_set_self hi, ys, es, upd_same, rfl, Vas.to k1 (fun _ _ _ n => n) _ _ w⟩
    · have n1 : i ≠ p.1 := fun z => hp' (slot_uniq G.ns hp hin z.symm)
      have n2 : p.2 ≠ a := fun z => hp' (own_uniq G.na hp hin z)
      obtain ⟨g0, d, g1, xs, ds, g2, g3, g4⟩ := G.ow p hp
      exact ⟨g0, d, by rw [List.getElem?_set_ne n1]; exact g1, xs, ds, by rw [upd_ne n2]; exact g2, g3, Vas.to k1 (fun _ _ _ n => n) _ _ g4⟩
  · have n1 : i ≠ j := fun z => n (List.mem_map.mpr ⟨(i, a), hin, z⟩)
    rw [List.getElem?_set_ne n1] at e
    obtain ⟨v, f1, f2⟩ := G.va j d e n
    exact ⟨v, f1, Va.to k1 (fun _ _ _ n => n) _ _ f2⟩
  · have hb : b ≠ a := fun z => by
      rcases G.fr (i, a) hin with h | h
      · exact n i (z ▸ h)
      · rw [z] at e
        rw [h] at e
        cases e
    rw [upd_ne hb]
    exact G.keep b o' e n
  · obtain ⟨⟨o', e⟩, r⟩ := G.xt b hb
    have hb' : b ≠ a := fun z => r.2.1 (z ▸ List.mem_map.mpr ⟨(i, a), hin, rfl⟩)
    exact ⟨⟨o', by rw [upd_ne hb']; exact e⟩, r⟩
  · by_cases n1 : i = j
    · subst n1
      exact List.mem_map.mpr ⟨(i, a), hin, rfl⟩
    · rw [List.getElem?_set_ne n1] at e
      exact G.oall j hj d e
theorem Rel.writeFr {fb : List Nat} (G : Good W own σ H env) (hin : (i, a) ∈ own) (hf : i ∉ fb) : Fr fb own own H (upd H a (.lst ys)) := by
  refine ⟨fun b o e n => ⟨by rw [upd_ne fun (z : b = a) => n (z ▸ List.mem_map.mpr ⟨(i, a), hin, rfl⟩)]; exact e, n⟩, fun p hp hpf => ⟨hp, ?_⟩⟩
  have n2 : p.2 ≠ a := fun z => by
    have := own_uniq G.na hp hin z
    subst this
    exact hf hpf
  exact upd_ne n2
/-- what an owner's slot holds -/
theorem Good.owned {c : Ctx} {d : D} (ft : Fit c W) (G : Good W own σ H env) (hi : i ∈ c.os) (e : env[i]? = some (some d)) : ∃ a xs ds, (i, a) ∈ own ∧ σ[i]? = some (some (.ref a)) ∧ H a = some (.lst xs) ∧ d = .list ds ∧ Vas H (Avd W own) xs ds := by
  obtain ⟨p, hp, rfl⟩ := List.mem_map.mp (G.oall i (by rw [ft.2.1]; exact hi) d e)
  obtain ⟨e1, d', e2, xs, ds, f1, f2, f3⟩ := G.ow p hp
  rw [e] at e2
  cases e2
  exact ⟨p.2, xs, ds, hp, e1, f1, f2, f3⟩
end
section
variable {c : Ctx} {new : Bool} {fb : List Nat} {e a b ie : Expr} {pos px p2 apos : Pos} {m mi : EM} {i : Nat} {x : Str}
/-- a change of the list in slot i by one value: f tells what comes -/
def sUpd (i : Nat) (m : EM) (f : List D → D → Option (List D)) : SM := fun e => match e[i]? with
  | some (some (.list _)) => match m e with
    | some (d, e1) => match e1[i]? with
      | some (some (.list ds)) => match f ds d with
        | some es => some (.nx, e1.set i (some (.list es)))
        | none => none
      | _ => none
    | none => none
  | _ => none
def appD (ds : List D) (d : D) : Option (List D) := if ds.length < 16777216 then some (ds ++ [d]) else none
def extD (ds : List D) (d : D) : Option (List D) := match d with
  | .list es => if ds.length + es.length ≤ 16777216 then some (ds ++ es) else none
  | _ => none
theorem sUpd_some {f : List D → D → Option (List D)} {env env' : Env} {fl : Fl} (h : sUpd i m f env = some (fl, env')) : ∃ d0 d e1 ds es, env[i]? = some (some (.list d0)) ∧ m env = some (d, e1) ∧ e1[i]? = some (some (.list ds)) ∧ f ds d = some es ∧ fl = .nx ∧ env' = e1.set i (some (.list es)) := by
  unfold sUpd at h
  split at h
  · rename_i d0 h0
    split at h
    · rename_i d e1 h1
      split at h
      · rename_i ds h2
        split at h
        · rename_i es h3
          cases h
          exact ⟨d0, d, e1, ds, es, h0, h1, h2, h3, rfl, rfl⟩
        · cases h
      · cases h
    · cases h
  · cases h
theorem pe_ownName (hN : c.N[i]? = some x) (hv : c.sc.names.lookup x = some .local ∨ c.sc.names.lookup x = some .cell ∨ c.sc.names.lookup x = some .free) (hd : (x == ("__debug__" : Str)) = false) (hcd : (x == ("__classdict__" : Str)) = false) (X : Cx) (h : InC c X) : PE X (.Name x px) (tVar i) :=
  pe_var (by rw [h.n]; exact hN) (by unfold Vis; rw [h.sc]; exact hv) hd hcd
theorem rs_app (hN : c.N[i]? = some x) (hv : c.sc.names.lookup x = some .local ∨ c.sc.names.lookup x = some .cell ∨ c.sc.names.lookup x = some .free) (hi : i ∈ c.os) (hif : i ∉ fb) (hfb : ∀ i, c.pw = some i → i ∉ fb) (ha : RE c a m)
    (hd : (x == ("__debug__" : Str)) = false := by decide) (hcd : (x == ("__classdict__" : Str)) = false := by decide)
    (hbase : ∀ env, attributeBase (.Name x px) ("append" : Str) env (eval (.Name x px) env) = eval (.Name x px) env := by intro _; rfl)
    (hfew : ∀ env, ((backTo p2 (starEach [a] env)).all (fun x => !x.1) && (backToKw p2 (keywordEach [] env)).all (fun x => x.1.isSome) && decide ([a].length + ([] : List Keyword).length + (if ([] : List Keyword).isEmpty then 0 else 1) < 30)) = true := by intro _; rfl)
    (hline : (apos.endLine == p2.line) = true := by rfl) (hs : ∀ env, starEach [a] env = (false, eval a env) :: starEach [] env := by intro _; rfl) (hplain : ∀ env, (backTo p2 (starEach [] env)).any (·.1) = false := by intro _; rfl)
    (hsw : ∀ env, swapsWith (.Call (.Attribute (.Name x px) ("append" : Str) apos) [a] [] p2) none pos.line env = pure false := by intro _; rfl) : RS c new fb (.Expr (.Call (.Attribute (.Name x px) ("append" : Str) apos) [a] [] p2) pos) (sUpd i m appD) := by
  obtain ⟨ta, pa, ha⟩ := ha
  refine ⟨tDrop (tBM c.K "list" rAppend (tVar i) (tCons ta tNil)), fun X h => ps_expr (by rw [← h.k]; exact pe_bm PySem.F.plainAttrs_list PySem.F.slot_list_append PySem.F.type_list_append mt_append (pe_ownName hN hv hd hcd X h) (pa_cons (pa X h) pa_nil (hs _)) (hbase _) (hfew _) hline (hs _) (hplain _)) (hsw _), fun W own σ H env fl env' D ft G e q => ?_⟩
  obtain ⟨d0, d, e1, ds, es, h0, h1, h2, h3, rfl, rfl⟩ := sUpd_some e
  obtain ⟨ad, xs0, _, g1, g2, g3, _, _⟩ := G.owned ft hi h0
  refine ⟨.ref ad, g2, .inl ⟨rfl, _, SqL.of g3⟩, ?_⟩
  refine ha W own σ H env d e1 _ ft G h1 fun v H1 x1 G1 w1 => ?_
  obtain ⟨f0, d1, f1, xs, ds', k1, k2, k3⟩ := G1.ow (i, ad) g1
  have f1 : e1[i]? = some (some d1) := f1
  rw [h2] at f1
  cases f1
  cases k2
  unfold appD at h3
  split at h3
  · rename_i hz
    cases h3
    refine ⟨ad, xs, v, rfl, rfl, k1, lt_line (by rw [k3.len]; exact hz), ?_⟩
    exact q own σ _ (G1.write g1 (k3.append (.cons w1 .nil))) ((x1.fr ft G hfb).trans (G1.writeFr g1 hif))
  · cases h3
/-- xs[k] = e, xs an owned list -/
def sPut (i : Nat) (m mi : EM) : SM := fun e => match m e with
  | some (d, e1) => match e1[i]? with
    | some (some (.list _)) => match mi e1 with
      | some (.int k, e2) => match e2[i]? with
        | some (some (.list ds)) => match ixN ds.length k with
          | some j => some (.nx, e2.set i (some (.list (ds.set j d))))
          | none => none
        | _ => none
      | _ => none
    | _ => none
  | none => none
theorem rs_put (hN : c.N[i]? = some x) (hv : c.sc.names.lookup x = some .local ∨ c.sc.names.lookup x = some .cell ∨ c.sc.names.lookup x = some .free) (hi : i ∈ c.os) (hif : i ∉ fb) (hfb : ∀ i, c.pw = some i → i ∉ fb) (ha : RE c a m) (hx : RE c ie mi)
    (hd : (x == ("__debug__" : Str)) = false := by decide) (hcd : (x == ("__classdict__" : Str)) = false := by decide)
    (hsub : ∀ env v, assign (.Subscript (.Name x px) ie p2) env v = (do
      let ov ← holding [v] (eval (.Name x px) env)
      let iv ← holding [v, ov] (eval ie env)
      standAt p2
      holding [v, ov, iv] (setItem ov iv v)
      release [v, ov, iv] []) := by intro _ _; rfl)
    (hs : ∀ env, swapsWithSole [.Subscript (.Name x px) ie p2] a pos.line env = pure false := by intro _; rfl) (hw : ∀ env, swappedStores [.Subscript (.Name x px) ie p2] a env = pure none := by intro _; rfl)
    (h1 : ∀ env, (assignEach [.Subscript (.Name x px) ie p2] env).map (·.2) = [assign (.Subscript (.Name x px) ie p2) env] := by intro _; rfl) : RS c new fb (.Assign [.Subscript (.Name x px) ie p2] a pos) (sPut i m mi) := by
  obtain ⟨ta, pa, ha⟩ := ha
  obtain ⟨ti, pi, hx⟩ := hx
  refine ⟨tAsg ta (gSub (tVar i) ti rSetL), fun X h => ps_asg (pa X h) (pg_sub (pe_ownName hN hv hd hcd X h) (pi X h) set_list (hsub _)) (hs _) (hw _) (h1 _), fun W own σ H env fl env' D ft G e q => ?_⟩
  unfold sPut at e
  split at e
  · rename_i d e1 h1
    split at e
    · rename_i d0 h0
      split at e
      · rename_i k e2 h2
        split at e
        · rename_i ds h3
          split at e
          · rename_i j h4
            cases e
            refine ha W own σ H env d e1 _ ft G h1 fun v H1 x1 G1 w1 => ?_
            obtain ⟨ad, xs0, _, g1, g2, g3, _, _⟩ := G1.owned ft hi h0
            refine ⟨.ref ad, g2, ?_⟩
            refine hx W own σ H1 e1 _ e2 _ ft G1 h2 fun u H2 x2 G2 w2 => ?_
            cases w2
            obtain ⟨f0, d1, f1, xs, ds', k1, k2, k3⟩ := G2.ow (i, ad) g1
            have f1 : e2[i]? = some (some d1) := f1
            rw [h3] at f1
            cases f1
            cases k2
            refine ⟨ad, xs, k, j, rfl, rfl, k1, by rw [k3.len]; exact h4, ?_⟩
            exact q own σ _ (G2.write g1 (k3.set (w1.ex G1.potAv x2) j)) (((x1.trans x2).fr ft G hfb).trans (G2.writeFr g1 hif))
          · cases e
        · cases e
      · cases e
    · cases e
  · cases e
end

/-! ### x, y = a, b with plain local names -/
def sPar (i j : Nat) (ma mb : EM) : SM := fun e => match ma e with
  | some (x, e1) => match mb e1 with
    | some (y, e2) => some (.nx, (e2.set i (some x)).set j (some y))
    | none => none
  | none => none
section
variable {c : Ctx} {new : Bool} {fb : List Nat} {a b : Expr} {pos px py pt pt2 : Pos} {ma mb : EM} {i j : Nat} {x y : Str} {kt k2 : Nat}
theorem sPar_some {env env' : Env} {fl : Fl} (h : sPar i j ma mb env = some (fl, env')) : ∃ x e1 y e2, ma env = some (x, e1) ∧ mb e1 = some (y, e2) ∧ fl = .nx ∧ env' = (e2.set i (some x)).set j (some y) := by
  unfold sPar at h
  split at h
  · rename_i x e1 h1
    split at h
    · rename_i y e2 h2
      cases h
      exact ⟨x, e1, y, e2, h1, h2, rfl, rfl⟩
    · cases h
  · cases h
/-- both are data -/
theorem rs_par (hi : c.N[i]? = some x) (hj : c.N[j]? = some y) (hij : i ≠ j) (hx : c.sc.names.lookup x = some .local) (hy : c.sc.names.lookup y = some .local) (hoi : i ∉ c.os) (hoj : j ∉ c.os) (hfb : ∀ i, c.pw = some i → i ∉ fb) (ha : RE c a ma) (hb : RE c b mb)
    (hw : ∀ env, env.scope = c.sc → swappedStores [.Tuple [.Name x px, .Name y py] kt pt] (.Tuple [a, b] k2 pt2) env = pure (some [x, y]))
    (hsa : ∀ env, starEach [a, b] env = (false, eval a env) :: starEach [b] env := by intro _; rfl) (hsb : ∀ env, starEach [b] env = (false, eval b env) :: starEach [] env := by intro _; rfl)
    (hs : ∀ env, swapsWithSole [.Tuple [.Name x px, .Name y py] kt pt] (.Tuple [a, b] k2 pt2) pos.line env = pure false := by intro _; rfl) :
    RS c new fb (.Assign [.Tuple [.Name x px, .Name y py] kt pt] (.Tuple [a, b] k2 pt2) pos) (sPar i j ma mb) := by
  obtain ⟨ta, pa, ha⟩ := ha
  obtain ⟨tb, pb, hb⟩ := hb
  refine ⟨tPar i j (tCons ta (tCons tb tNil)), fun X h => ps_par h.calm (by rw [h.n]; exact h.nd) (by rw [h.n]; exact hi) (by rw [h.n]; exact hj) hij (by rw [h.sc]; exact hx) (by rw [h.sc]; exact hy) (pa_cons (pa X h) (pa_cons (pb X h) pa_nil (hsb _)) (hsa _)) (hw _ h.sc) (hs _), fun W own σ H env fl env' D ft G e q => ?_⟩
  obtain ⟨d, e1, d2, e2, h1, h2, rfl, rfl⟩ := sPar_some e
  refine ha W own σ H env d e1 _ ft G h1 fun v H1 x1 G1 w1 => hb W own σ H1 e1 d2 e2 _ ft G1 h2 fun u H2 x2 G2 w2 => ⟨v, u, rfl, ?_⟩
  exact q own _ H2 ((G2.set (by rw [ft.2.1]; exact hoi) (w1.ex G1.potAv x2)).set (by rw [ft.2.1]; exact hoj) w2) ((x1.trans x2).fr ft G hfb)
/-- the store of a new object at an owner's slot, what it held forgotten -/
theorem adopt_at {W : Wd} {own : List (Nat × Addr)} {σ : St} {H : Hp} {env : Env} {p : Addr} {d : D} (ft : Fit c W) (R : Rel W (fun a => Avd W own a ∨ a = p) own σ H env) (hio : i ∈ c.os) (hpw : c.pw ≠ some i) (hn : ¬ Avd W own p) (hp : W.H0 p = none) (o : Ow H (fun a => Avd W own a ∨ a = p) p d) :
    ∃ own', Good W own' (σ.set i (some (.ref p))) H (env.set i (some d)) ∧ (∀ fb H0, i ∉ fb → Fr fb own own H0 H → H0 p = none → Fr fb own own' H0 H) ∧ (∀ a, Avd W own' a → Avd W own a ∨ a = p) ∧ (∀ z ∈ own, z.1 ≠ i → z ∈ own') ∧ ∀ z ∈ own', z ∈ own ∨ z.2 = p := by
  by_cases hl : i < env.length
  · refine ⟨_, R.adopt (by rw [ft.2.1]; exact hio) (fun a z => hpw (by rw [← ft.1, z]; rfl)) hl hp hn o, fun fb H0 hif f h0 => adopt_fr hif f h0, fun a h => ?_, fun z hz hn => List.mem_cons_of_mem _ (List.mem_filter.mpr ⟨hz, by simpa using hn⟩), fun z hz => (List.mem_cons.mp hz).elim (fun e => .inr (by rw [e])) fun h => .inl (List.mem_filter.mp h).1⟩
    rcases h with h | h
    · exact .inl (.inl h)
    · rw [List.map_cons] at h
      rcases List.mem_cons.mp h with h | h
      · exact .inr h
      · obtain ⟨q, hq, rfl⟩ := List.mem_map.mp h
        exact .inl (.inr (List.mem_map.mpr ⟨q, (List.mem_filter.mp hq).1, rfl⟩))
  · refine ⟨own, ?_, fun fb H0 _ f _ => f, fun a h => .inl h, fun z hz _ => hz, fun z hz => .inl hz⟩
    have e1' : σ.set i (some (V.ref p)) = σ := List.set_eq_of_length_le (by rw [← R.len]; omega)
    have e2' : env.set i (some d) = env := List.set_eq_of_length_le (by omega)
    rw [e1', e2']
    exact R.less (fun _ h => h) fun _ h => .inl h
theorem h0_none {W : Wd} {own : List (Nat × Addr)} {σ : St} {H : Hp} {env : Env} {p : Addr} (G : Good W own σ H env) (hp : H p = none) (hn : ¬ Avd W own p) : W.H0 p = none := by
  cases z : W.H0 p with
  | none => rfl
  | some ob =>
    exfalso
    have := G.keep p ob z fun i z => hn (G.potAv i p z)
    rw [hp] at this; cases this
theorem Rel.plusR {W : Wd} {own : List (Nat × Addr)} {σ : St} {H : Hp} {env : Env} {p : Addr} (R : Rel W (fun a => Avd W own a ∨ a = p) own σ H env) (ht : ∃ o, H p = some o) (hn : ¬ Avd W own p) (h0 : W.H0 p = none) : Good (W.plus [p]) own σ H env := by
  have sub : ∀ a, Avd (W.plus [p]) own a → Avd W own a ∨ a = p := fun a h => by
    rcases h with (h | h) | h
    · exact .inl (.inl (.inl h))
    · rcases List.mem_append.mp h with h | h
      · exact .inr (by simpa using h)
      · exact .inl (.inl (.inr h))
    · exact .inl (.inr h)
  have R2 := R.less (Av' := Avd (W.plus [p]) own) (fun a h => by
    rcases h with (h | h) | h
    · exact .inl (.inl h)
    · exact .inl (.inr (List.mem_append_right _ h))
    · exact .inr h) sub
  refine ⟨R2.len, R2.ns, R2.na, R2.ow, R2.va, R2.keep, R2.fr, R2.pin, R2.avt, fun _ h => h, R2.osub, fun a ha => ?_, R2.oall⟩
  rcases List.mem_append.mp ha with ha | ha
  · have : a = p := by simpa using ha
    subst this
    exact ⟨ht, fun i z => hn (.inr (List.mem_map.mpr ⟨(i, a), R.pin _ z, rfl⟩)), fun z => hn (.inr z), h0⟩
  · exact R.xt a ha
theorem Rel.minusR {W : Wd} {own : List (Nat × Addr)} {σ : St} {H : Hp} {env : Env} {p : Addr} {Av : Addr → Prop} (R : Rel (W.plus [p]) Av own σ H env) : Rel W Av own σ H env :=
  ⟨R.len, R.ns, R.na, R.ow, R.va, R.keep, R.fr, R.pin, R.avt, fun a h => R.sub a (by
    rcases h with (h | h) | h
    · exact .inl (.inl h)
    · exact .inl (.inr (List.mem_append_right _ h))
    · exact .inr h), R.osub, fun a ha => R.xt a (List.mem_append_right _ ha), R.oall⟩
theorem avd_p {W : Wd} {own : List (Nat × Addr)} {p a : Addr} : Avd (W.plus [p]) own a ↔ Avd W own a ∨ a = p := by
  constructor
  · intro h
    rcases h with (h | h) | h
    · exact .inl (.inl (.inl h))
    · rcases List.mem_append.mp h with h | h
      · exact .inr (by simpa using h)
      · exact .inl (.inl (.inr h))
    · exact .inl (.inr h)
  · rintro (h | rfl)
    · rcases h with (h | h) | h
      · exact .inl (.inl h)
      · exact .inl (.inr (List.mem_append_right _ h))
      · exact .inr h
    · exact .inl (.inr (List.mem_append_left _ List.mem_cons_self))
theorem Ow.ex {W : Wd} {H H' : Hp} {Av : Addr → Prop} {p : Addr} {d : D} (hp : ∀ i a, W.pot = some (i, a) → Av a) (hq : ∀ i, W.pot ≠ some (i, p)) (x : Ex W H H') (o : Ow H Av p d) : Ow H' Av p d := by
  obtain ⟨xs, ds, e1, e2, e3⟩ := o
  exact ⟨xs, ds, x _ _ e1 hq, e2, e3.ex hp x⟩
/-- the first data, the second a new object at an owner's slot -/
theorem rs_parEN (hi : c.N[i]? = some x) (hj : c.N[j]? = some y) (hij : i ≠ j) (hx : c.sc.names.lookup x = some .local) (hy : c.sc.names.lookup y = some .local) (hoi : i ∉ c.os) (hoj : j ∈ c.os) (hpw : c.pw ≠ some j) (hjf : j ∉ fb) (hfb : ∀ i, c.pw = some i → i ∉ fb) (ha : RE c a ma) (hb : RN c b mb)
    (hw : ∀ env, env.scope = c.sc → swappedStores [.Tuple [.Name x px, .Name y py] kt pt] (.Tuple [a, b] k2 pt2) env = pure (some [x, y]))
    (hsa : ∀ env, starEach [a, b] env = (false, eval a env) :: starEach [b] env := by intro _; rfl) (hsb : ∀ env, starEach [b] env = (false, eval b env) :: starEach [] env := by intro _; rfl)
    (hs : ∀ env, swapsWithSole [.Tuple [.Name x px, .Name y py] kt pt] (.Tuple [a, b] k2 pt2) pos.line env = pure false := by intro _; rfl) :
    RS c new fb (.Assign [.Tuple [.Name x px, .Name y py] kt pt] (.Tuple [a, b] k2 pt2) pos) (sPar i j ma mb) := by
  obtain ⟨ta, pa, ha⟩ := ha
  obtain ⟨tb, pb, hb⟩ := hb
  refine ⟨tPar i j (tCons ta (tCons tb tNil)), fun X h => ps_par h.calm (by rw [h.n]; exact h.nd) (by rw [h.n]; exact hi) (by rw [h.n]; exact hj) hij (by rw [h.sc]; exact hx) (by rw [h.sc]; exact hy) (pa_cons (pa X h) (pa_cons (pb X h) pa_nil (hsb _)) (hsa _)) (hw _ h.sc) (hs _), fun W own σ H env fl env' D ft G e q => ?_⟩
  obtain ⟨d, e1, d2, e2, h1, h2, rfl, rfl⟩ := sPar_some e
  refine ha W own σ H env d e1 _ ft G h1 fun v H1 x1 G1 w1 => hb W own σ H1 e1 d2 e2 _ ft G1 h2 fun p H2 x2 hp hn R o => ⟨v, .ref p, rfl, ?_⟩
  have h0 : W.H0 p = none := by
    cases z : W.H0 p with
    | none => rfl
    | some ob =>
      exfalso
      have := G1.keep p ob z fun i z => hn (G1.potAv i p z)
      rw [hp] at this; cases this
  obtain ⟨own', G', f', sub, _, _⟩ := adopt_at (i := j) ft R hoj hpw hn h0 o
  have wv : Va H2 (fun a => Avd W own a ∨ a = p) v d := by
    have a1 : Va H1 (fun a => Avd W own a ∨ a = p) v d := Va.to (fun a o e _ => e) (fun a o e n z => z.elim n fun z => by rw [z, hp] at e; cases e) _ _ w1
    exact a1.ex (fun i a z => .inl (G1.potAv i a z)) x2
  have G2 := G'.set (i := i) (by rw [ft.2.1]; exact hoi) (wv.av sub)
  rw [List.set_comm _ _ (Ne.symm hij), List.set_comm _ _ (Ne.symm hij)] at G2
  exact q own' _ H2 G2 ((x1.fr ft G hfb).trans (f' fb H1 hjf (x2.fr ft G1 hfb) hp))
/-- the first a new object at an owner's slot, the second data -/
theorem rs_parNE (hi : c.N[i]? = some x) (hj : c.N[j]? = some y) (hij : i ≠ j) (hx : c.sc.names.lookup x = some .local) (hy : c.sc.names.lookup y = some .local) (hoi : i ∈ c.os) (hpw : c.pw ≠ some i) (hif : i ∉ fb) (hoj : j ∉ c.os) (hfb : ∀ i, c.pw = some i → i ∉ fb) (ha : RN c a ma) (hb : RE c b mb)
    (hw : ∀ env, env.scope = c.sc → swappedStores [.Tuple [.Name x px, .Name y py] kt pt] (.Tuple [a, b] k2 pt2) env = pure (some [x, y]))
    (hsa : ∀ env, starEach [a, b] env = (false, eval a env) :: starEach [b] env := by intro _; rfl) (hsb : ∀ env, starEach [b] env = (false, eval b env) :: starEach [] env := by intro _; rfl)
    (hs : ∀ env, swapsWithSole [.Tuple [.Name x px, .Name y py] kt pt] (.Tuple [a, b] k2 pt2) pos.line env = pure false := by intro _; rfl) :
    RS c new fb (.Assign [.Tuple [.Name x px, .Name y py] kt pt] (.Tuple [a, b] k2 pt2) pos) (sPar i j ma mb) := by
  obtain ⟨ta, pa, ha⟩ := ha
  obtain ⟨tb, pb, hb⟩ := hb
  refine ⟨tPar i j (tCons ta (tCons tb tNil)), fun X h => ps_par h.calm (by rw [h.n]; exact h.nd) (by rw [h.n]; exact hi) (by rw [h.n]; exact hj) hij (by rw [h.sc]; exact hx) (by rw [h.sc]; exact hy) (pa_cons (pa X h) (pa_cons (pb X h) pa_nil (hsb _)) (hsa _)) (hw _ h.sc) (hs _), fun W own σ H env fl env' D ft G e q => ?_⟩
  obtain ⟨d, e1, d2, e2, h1, h2, rfl, rfl⟩ := sPar_some e
  refine ha W own σ H env d e1 _ ft G h1 fun p H1 x1 hp hn R o => ?_
  have h0 := h0_none G hp hn
  have ht : ∃ o, H1 p = some o := by
    obtain ⟨xs, ds, g1, _⟩ := o
    exact ⟨_, g1⟩
  have G1 := R.plusR ht hn h0
  have npot : ∀ i, W.pot ≠ some (i, p) := fun i z => hn (.inr (List.mem_map.mpr ⟨(i, p), G.pin _ z, rfl⟩))
  refine hb (W.plus [p]) own σ H1 e1 d2 e2 _ ft G1 h2 fun u H2 x2 G2 w2 => ⟨.ref p, u, rfl, ?_⟩
  have R2 : Rel W (fun a => Avd W own a ∨ a = p) own σ H2 e2 := (G2.less (Av' := fun a => Avd W own a ∨ a = p) (fun a h => avd_p.mp h) (fun a h => avd_p.mpr h)).minusR
  have o2 : Ow H2 (fun a => Avd W own a ∨ a = p) p d := o.ex (fun i a z => .inl (.inr (List.mem_map.mpr ⟨(i, a), G.pin _ z, rfl⟩))) npot x2
  obtain ⟨own', G', f', sub, _, _⟩ := adopt_at (i := i) ft R2 hoi hpw hn h0 o2
  have G3 := G'.set (i := j) (by rw [ft.2.1]; exact hoj) (Va.av (fun a h => avd_p.mpr (sub a h)) w2)
  exact q own' _ H2 G3 (f' fb H hif ((x1.trans x2).fr ft G hfb) hp)
/-- two new objects at owners' slots -/
theorem rs_parNN (hi : c.N[i]? = some x) (hj : c.N[j]? = some y) (hij : i ≠ j) (hx : c.sc.names.lookup x = some .local) (hy : c.sc.names.lookup y = some .local) (hoi : i ∈ c.os) (hpi : c.pw ≠ some i) (hif : i ∉ fb) (hoj : j ∈ c.os) (hpj : c.pw ≠ some j) (hjf : j ∉ fb) (hfb : ∀ i, c.pw = some i → i ∉ fb) (ha : RN c a ma) (hb : RN c b mb)
    (hw : ∀ env, env.scope = c.sc → swappedStores [.Tuple [.Name x px, .Name y py] kt pt] (.Tuple [a, b] k2 pt2) env = pure (some [x, y]))
    (hsa : ∀ env, starEach [a, b] env = (false, eval a env) :: starEach [b] env := by intro _; rfl) (hsb : ∀ env, starEach [b] env = (false, eval b env) :: starEach [] env := by intro _; rfl)
    (hs : ∀ env, swapsWithSole [.Tuple [.Name x px, .Name y py] kt pt] (.Tuple [a, b] k2 pt2) pos.line env = pure false := by intro _; rfl) :
    RS c new fb (.Assign [.Tuple [.Name x px, .Name y py] kt pt] (.Tuple [a, b] k2 pt2) pos) (sPar i j ma mb) := by
  obtain ⟨ta, pa, ha⟩ := ha
  obtain ⟨tb, pb, hb⟩ := hb
  refine ⟨tPar i j (tCons ta (tCons tb tNil)), fun X h => ps_par h.calm (by rw [h.n]; exact h.nd) (by rw [h.n]; exact hi) (by rw [h.n]; exact hj) hij (by rw [h.sc]; exact hx) (by rw [h.sc]; exact hy) (pa_cons (pa X h) (pa_cons (pb X h) pa_nil (hsb _)) (hsa _)) (hw _ h.sc) (hs _), fun W own σ H env fl env' D ft G e q => ?_⟩
  obtain ⟨d, e1, d2, e2, h1, h2, rfl, rfl⟩ := sPar_some e
  refine ha W own σ H env d e1 _ ft G h1 fun p H1 x1 hp hn R o => ?_
  have h0 := h0_none G hp hn
  have ht : ∃ o, H1 p = some o := by
    obtain ⟨xs, ds, g1, _⟩ := o
    exact ⟨_, g1⟩
  have G1 := R.plusR ht hn h0
  have npot : ∀ i, W.pot ≠ some (i, p) := fun i z => hn (.inr (List.mem_map.mpr ⟨(i, p), G.pin _ z, rfl⟩))
  refine hb (W.plus [p]) own σ H1 e1 d2 e2 _ ft G1 h2 fun r H2 x2 hr hnr R2 o2 => ⟨.ref p, .ref r, rfl, ?_⟩
  have hr0 := h0_none (W := W.plus [p]) G1 hr hnr
  have hrp : r ≠ p := fun z => hnr (avd_p.mpr (.inr z))
  have hrn : ¬ Avd W own r := fun z => hnr (avd_p.mpr (.inl z))
  have o1 : Ow H2 (fun a => Avd W own a ∨ a = p) p d := o.ex (fun i a z => .inl (.inr (List.mem_map.mpr ⟨(i, a), G.pin _ z, rfl⟩))) npot x2
  -- the first one's items avoid the second one
  have o1' : Ow H2 (fun a => (Avd W own a ∨ a = p) ∨ a = r) p d := by
    obtain ⟨xs, ds, g1, g2, g3⟩ := o
    have hrH : H1 r = none := hr
    refine ⟨xs, ds, x2 _ _ g1 npot, g2, ?_⟩
    have a1 : Vas H1 (fun a => (Avd W own a ∨ a = p) ∨ a = r) xs ds := Vas.to (fun a o e _ => e) (fun a o e n z => z.elim n fun z => by rw [z, hrH] at e; cases e) _ _ g3
    exact a1.ex (fun i a z => .inl (.inl (.inr (List.mem_map.mpr ⟨(i, a), G.pin _ z, rfl⟩)))) x2
  have R3 : Rel W (fun a => (Avd W own a ∨ a = p) ∨ a = r) own σ H2 e2 := (R2.less (Av' := fun a => (Avd W own a ∨ a = p) ∨ a = r) (fun a h => .inl (avd_p.mp h)) (fun a h => h.imp avd_p.mpr id)).minusR
  obtain ⟨own1, G3, f3, sub1, _, _⟩ := adopt_at (W := W.plus [p]) (i := j) ft R2 hoj hpj hnr hr0 o2
  have hn1 : ¬ Avd W own1 p := fun z => by
    rcases z with (z | z) | z
    · exact hn (.inl (.inl z))
    · exact hn (.inl (.inr z))
    · exact (G3.xt p (List.mem_append_left _ List.mem_cons_self)).2.2.1 z
  have R5 : Rel W (fun a => Avd W own1 a ∨ a = p) own1 (σ.set j (some (.ref r))) H2 (e2.set j (some d2)) := (G3.less (Av' := fun a => Avd W own1 a ∨ a = p) (fun a h => avd_p.mp h) (fun a h => avd_p.mpr h)).minusR
  have sub2 : ∀ a, (Avd W own1 a ∨ a = p) → ((Avd W own a ∨ a = p) ∨ a = r) := fun a h => by
    rcases h with h | h
    · exact (sub1 a (avd_p.mpr (.inl h))).imp avd_p.mp id
    · exact .inl (.inr h)
  obtain ⟨own2, G6, f6, sub6, lk6, in6⟩ := adopt_at (i := i) ft R5 hoi hpi hn1 h0 (o1'.av sub2)
  rw [List.set_comm _ _ (Ne.symm hij), List.set_comm _ _ (Ne.symm hij)] at G6
  have hrH : H r = none := by
    cases z : H r with
    | none => rfl
    | some ob =>
      exfalso
      have := x1 r ob z fun i z => hrn (.inr (List.mem_map.mpr ⟨(i, r), G.pin _ z, rfl⟩))
      rw [hr] at this; cases this
  have fA : Fr fb own own1 H H2 := f3 fb H hjf ((x1.trans x2).fr ft G hfb) hrH
  refine q own2 _ H2 G6 ⟨fun b o e n => ⟨(fA.out b o e n).1, fun z => ?_⟩, fun p' hp' hf' => ?_⟩
  · obtain ⟨z1, hz1, hz2⟩ := List.mem_map.mp z
    rcases in6 z1 hz1 with k | k
    · exact (fA.out b o e n).2 (List.mem_map.mpr ⟨z1, k, hz2⟩)
    · have hz3 : z1.2 = b := hz2
      rw [← hz3, k, hp] at e; cases e
  · obtain ⟨g1, g2⟩ := fA.lk p' hp' hf'
    exact ⟨lk6 p' g1 fun z => hif (z ▸ hf'), g2⟩
end
end Fw
set_option Elab.async false
set_option linter.all false
set_option maxRecDepth 100000
/-! Fw10: op=, targets with places, methods of texts, divmod. -/
namespace Fw
open PySem PySem.Spec PyProof.Rows L2
section
variable {c : Ctx} {new : Bool} {fb : List Nat} {a b e ie : Expr} {es : List Expr} {pos px py p2 pt pt2 apos : Pos} {m ma mb mi : EM} {i j : Nat} {x y : Str} {kt k2 : Nat}
/-! ### x op= e -/
def sAug (i : Nat) (f : D → D → Option D) (m : EM) : SM := fun e => match e[i]? with
  | some (some x) => match m e with
    | some (y, e1) => match f x y with
      | some z => some (.nx, e1.set i (some z))
      | none => none
    | none => none
  | _ => none
theorem rs_aug {op : Operator} {r : R2} {f : D → D → Option D} (ho : ∀ X, InC c X → OpR X (inplaceOp op) r) (hf : P2 r f) (hN : c.N[i]? = some x) (hl : c.sc.names.lookup x = some .local ∨ (c.sc.names.lookup x = some .cell ∧ c.fns x = true)) (hi : i ∉ c.os) (hfb : ∀ i, c.pw = some i → i ∉ fb) (ha : RE c a m) :
    RS c new fb (.AugAssign (.Name x px) op a pos) (sAug i f m) := by
  obtain ⟨ta, pa, ha⟩ := ha
  refine ⟨tAug i ta r, fun X h => ?_, fun W own σ H env fl env' D ft G e q => ?_⟩
  · refine ps_aug (by rw [h.n]; exact h.nd) (by rw [h.n]; exact hN) ?_ (pa X h) (ho X h) ?_
    · unfold L2.Loc
      rw [h.sc]
      rcases hl with hl | ⟨hl, _⟩
      · exact .inl hl
      · exact .inr hl
    · rw [h.sc]
      rcases hl with hl | ⟨_, hl⟩
      · exact .inr hl
      · exact .inl (h.fn x hl)
  · unfold sAug at e
    split at e
    · rename_i d0 h0
      split at e
      · rename_i y e1 h1
        split at e
        · rename_i z h2
          cases e
          obtain ⟨v0, g1, g2⟩ := G.va i d0 h0 fun z => by
            obtain ⟨p, hp, rfl⟩ := List.mem_map.mp z
            have := G.osub p hp
            rw [ft.2.1] at this
            exact hi this
          refine ⟨v0, g1, ha W own σ H env y e1 _ ft G h1 fun v H1 x1 G1 w1 => ?_⟩
          exact hf H1 (Avd W own) v0 v d0 y z _ G1.trk (.inl (g2.ex G.potAv x1)) (.inl w1) h2 fun u H2 s w2 => q own _ H2 ((G1.same s).set (by rw [ft.2.1]; exact hi) w2) ((x1.trans (Ex.same s)).fr ft G hfb)
        · cases e
      · cases e
    · cases e

/-! ### targets among which are places of owned lists -/
def RG2 (c : Ctx) (fb : List Nat) (tg : Expr) (g : GM) : Prop :=
  ∃ t : TG, (∀ X, InC c X → PG X tg t) ∧ ∀ (W : Wd) (own : List (Nat × Addr)) (σ : St) (H : Hp) (env : Env) (d : D) (env' : Env) (v : V) (Q : St → Hp → Prop), Fit c W → Good W own σ H env → Va H (Avd W own) v d → g d env = some env' →
    (∀ σ' H', Good W own σ' H' env' → Fr fb own own H H' → Q σ' H') → t v σ H Q
def RGs2 (c : Ctx) (fb : List Nat) (tgs : List Expr) (gs : List GM) : Prop :=
  ∃ t : TGs, (∀ X, InC c X → PGs X tgs t) ∧ ∀ (W : Wd) (own : List (Nat × Addr)) (σ : St) (H : Hp) (env : Env) (ds : List D) (env' : Env) (vs : List V) (Q : St → Hp → Prop), Fit c W → Good W own σ H env → Vas H (Avd W own) vs ds → gTs gs ds env = some env' →
    (∀ σ' H', Good W own σ' H' env' → Fr fb own own H H' → Q σ' H') → t vs σ H Q
theorem RG.two {ts : List Nat} {tg : Expr} {g : GM} (h : RG c ts tg g) : RG2 c fb tg g := by
  obtain ⟨t, p, h⟩ := h
  exact ⟨t, p, fun W own σ H env d env' v Q ft G w e q => h W own σ H env d env' v Q ft G w e fun σ' G' _ => q σ' H G' Fr.refl⟩
theorem rgs2_nil : RGs2 c fb [] [] := by
  refine ⟨gNil, fun X h => pgs_nil, fun W own σ H env ds env' vs Q ft G w e q => ?_⟩
  cases ds with
  | cons d ds => cases e
  | nil =>
    cases w
    cases e
    exact ⟨rfl, q σ H G Fr.refl⟩
theorem rgs2_cons {tg : Expr} {tgs : List Expr} {g : GM} {gs : List GM} (h1 : RG2 c fb tg g) (h2 : RGs2 c fb tgs gs) (hs : ∀ env, (assignEach (tg :: tgs) env).map (·.2) = assign tg env :: (assignEach tgs env).map (·.2) := by intro _; rfl) : RGs2 c fb (tg :: tgs) (g :: gs) := by
  obtain ⟨t1, p1, h1⟩ := h1
  obtain ⟨t2, p2, h2⟩ := h2
  refine ⟨gCons t1 t2, fun X h => pgs_cons (p1 X h) (p2 X h) (hs _), fun W own σ H env ds env' vs Q ft G w e q => ?_⟩
  cases ds with
  | nil => cases e
  | cons d ds =>
    cases w with
    | cons w1 w2 =>
      rename_i v vs
      unfold gTs at e
      split at e
      · rename_i e1 h
        refine ⟨v, vs, rfl, h1 W own σ H env d e1 v _ ft G w1 h fun σ1 H1 G1 f1 => ?_⟩
        exact h2 W own σ1 H1 e1 ds env' vs Q ft G1 (Vas.to f1.two.va.1 f1.two.va.2 _ _ w2) e fun σ2 H2 G2 f2 => q σ2 H2 G2 (f1.trans f2)
      · cases e
theorem gTs_len : ∀ {gs : List GM} {ds : List D} {e e' : Env}, gTs gs ds e = some e' → ds.length = gs.length
  | [], [], _, _, _ => rfl
  | [], _ :: _, _, _, h => by cases h
  | _ :: _, [], _, _, h => by cases h
  | g :: gs, d :: ds, e, e', h => by
    unfold gTs at h
    split at h
    · rw [List.length_cons, List.length_cons, gTs_len h]
    · cases h
theorem rg2_t {k n : Nat} {tgs : List Expr} {gs : List GM} (h : RGs2 c fb tgs gs) (hn : ∀ env, (assignEach tgs env).length = n := by intro _; rfl) (hst : ∀ env, (assignEach tgs env).findIdx? (·.1) = none := by intro _; rfl) (hgl : gs.length = n := by rfl) : RG2 c fb (.Tuple tgs k pos) (gT gs) := by
  obtain ⟨t, p, h⟩ := h
  refine ⟨gTup c.K n t, fun X hX => by rw [← hX.k]; exact pg_tup hX.calm (p X hX) (hn _) (hst _), fun W own σ H env d env' v Q ft G w e q => ?_⟩
  unfold gT at e
  split at e
  · rename_i ds
    cases w with
    | tup r n' w =>
      rename_i a vs
      exact ⟨a, vs, rfl, .inl r, by rw [w.len, gTs_len e, hgl], h W own σ H env ds env' vs Q ft G w e q⟩
  · cases e
def gIx (i : Nat) (mi : EM) : GM := fun d e => match e[i]? with
  | some (some (.list _)) => match mi e with
    | some (.int k, e2) => match e2[i]? with
      | some (some (.list ds)) => match ixN ds.length k with
        | some j => some (e2.set i (some (.list (ds.set j d))))
        | none => none
      | _ => none
    | _ => none
  | _ => none
theorem rg2_ix (hN : c.N[i]? = some x) (hv : c.sc.names.lookup x = some .local ∨ c.sc.names.lookup x = some .cell ∨ c.sc.names.lookup x = some .free) (hi : i ∈ c.os) (hif : i ∉ fb) (hfb : ∀ i, c.pw = some i → i ∉ fb) (hx : RE c ie mi)
    (hd : (x == ("__debug__" : Str)) = false := by decide) (hcd : (x == ("__classdict__" : Str)) = false := by decide)
    (hsub : ∀ env v, assign (.Subscript (.Name x px) ie p2) env v = (do
      let ov ← holding [v] (eval (.Name x px) env)
      let iv ← holding [v, ov] (eval ie env)
      standAt p2
      holding [v, ov, iv] (setItem ov iv v)
      release [v, ov, iv] []) := by intro _ _; rfl) : RG2 c fb (.Subscript (.Name x px) ie p2) (gIx i mi) := by
  obtain ⟨ti, pi, hx⟩ := hx
  refine ⟨gSub (tVar i) ti rSetL, fun X h => pg_sub (pe_ownName hN hv hd hcd X h) (pi X h) set_list (hsub _), fun W own σ H env d env' v Q ft G w1 e q => ?_⟩
  unfold gIx at e
  split at e
  · rename_i d0 h0
    split at e
    · rename_i k e2 h2
      split at e
      · rename_i ds h3
        split at e
        · rename_i jj h4
          cases e
          obtain ⟨ad, xs0, _, g1, g2, g3, _, _⟩ := G.owned ft hi h0
          refine ⟨.ref ad, g2, ?_⟩
          refine hx W own σ H env _ e2 _ ft G h2 fun u H2 x2 G2 w2 => ?_
          cases w2
          obtain ⟨f0, d1, f1, xs, ds', k1, k2, k3⟩ := G2.ow (i, ad) g1
          have f1 : e2[i]? = some (some d1) := f1
          rw [h3] at f1
          cases f1
          cases k2
          refine ⟨ad, xs, k, jj, rfl, rfl, k1, by rw [k3.len]; exact h4, ?_⟩
          exact q σ _ (G2.write g1 (k3.set (w1.ex G.potAv x2) jj)) ((x2.fr ft G hfb).trans (G2.writeFr g1 hif))
        · cases e
      · cases e
    · cases e
  · cases e
theorem rs_asg2 {tg : Expr} {g : GM} (hfb : ∀ i, c.pw = some i → i ∉ fb) (ha : RE c a m) (hg : RG2 c fb tg g) (hs : ∀ env, swapsWithSole [tg] a pos.line env = pure false := by intro _; rfl) (hw : ∀ env, env.scope = c.sc → swappedStores [tg] a env = pure none := by intro _ _; rfl)
    (h1 : ∀ env, (assignEach [tg] env).map (·.2) = [assign tg env] := by intro _; rfl) : RS c new fb (.Assign [tg] a pos) (sAsg m g) := by
  obtain ⟨ta, pa, ha⟩ := ha
  obtain ⟨t, p, hg⟩ := hg
  refine ⟨tAsg ta t, fun X h => ps_asg (pa X h) (p X h) (hs _) (hw _ h.sc) (h1 _), fun W own σ H env fl env' D ft G e q => ?_⟩
  unfold sAsg at e
  split at e
  · rename_i d e1 h1
    split at e
    · rename_i e2 h2
      cases e
      exact ha W own σ H env d e1 _ ft G h1 fun v H' x1 G' w => hg W own σ H' e1 d _ v _ ft G' w h2 fun σ' H2 G2 f2 => q own σ' H2 G2 ((nofb hfb ft G x1).trans f2)
    · cases e
  · cases e

/-! ### divmod -/
def dDivmod : D → D → Option D
  | .int i, .int j => if 0 < j ∧ j.natAbs.log2 < 9000 then some (.tuple [.int (i / j), .int (i % j)]) else none
  | _, _ => none
def rDivmodW : List V → Hp → VK → Prop := fun xs H Q => ∃ i j : Int, xs = [.int i, .int j] ∧ CDivW i j ∧ ∀ p, H p = none → Q (.ref p) (upd H p (.tup [.int (i / j), .int (i % j)]))
theorem call_divmodW {X : Cx} : CallR X (.builtin "divmod") rDivmodW := by
  intro pins s σ H xs us Q I r h
  obtain ⟨i, j, rfl, ⟨big, low⟩, q⟩ := h
  obtain ⟨u, w2, rfl, ⟨t, rfl⟩, ⟨t2, rfl⟩⟩ := vals2 r
  refine divmod_int (by omega) ?_ (.inl (PyProof.noPylong_of_log2 low))
  rw [Int.fdiv_eq_ediv_of_nonneg i (Int.le_of_lt big), Int.fmod_eq_emod_of_nonneg i (Int.le_of_lt big)]
  have fresh : H s.heap.objs.size = none := I.hok.fresh (Nat.le_refl _)
  refine ⟨.ref s.heap.objs.size, _, ?_, rfl, q _ fresh⟩
  refine I.laid (o := .tup [.int (i / j), .int (i % j)]) (fun b o e => Heap.get?_push_of_some _ e) (Nat.le_refl _) ?_
  exact ⟨by simp only [List.length_cons, List.length_nil]; rw [sizeLine_eq]; decide, [.int (i / j) s.toks, .int (i % j) (s.toks + 1)], .cons ⟨_, rfl⟩ (.cons ⟨_, rfl⟩ .nil), ⟨_, Heap.get?_push_size s.heap rfl, rfl, 0, rfl⟩⟩
theorem pl_divmod : PL (fun xs H Q => ∃ i j, xs = [.int i, .int j] ∧ CDivW i j ∧ ∀ p, H p = none → Q (.ref p) (upd H p (.tup [.int (i / j), .int (i % j)]))) (f2 dDivmod) := by
  intro H Av vs xs d Q t hx hf k
  unfold f2 at hf
  split at hf
  · obtain ⟨v, u, rfl, hw, hw2⟩ := vws2 hx
    unfold dDivmod at hf
    split at hf
    · split at hf
      · rename_i h
        cases hf
        rw [hw.int, hw2.int]
        refine ⟨_, _, rfl, h, fun p hp => ?_⟩
        exact k _ _ (same_upd hp) (.tup (.inl upd_same) (t.new hp) (.cons (.int _) (.cons (.int _) .nil)))
      · cases hf
    · cases hf
  · cases hf

/-! ### s.split(t), s.join(xs) -/
def strsD : List D → Option (List Str)
  | [] => some []
  | .str i :: ds => (strsD ds).map (i :: ·)
  | _ => none
theorem strsD_some : ∀ {ds : List D} {ns : List Str}, strsD ds = some ns → ds = ns.map .str
  | [], ns, h => by cases h; rfl
  | .str i :: ds, ns, h => by
    unfold strsD at h
    cases e : strsD ds with
    | none => rw [e] at h; cases h
    | some ms =>
      rw [e] at h
      cases h
      rw [strsD_some e]
      rfl
theorem Vas.strs {H : Hp} {Av : Addr → Prop} : ∀ {vs : List V} {ns : List Str}, Vas H Av vs (ns.map PyData.str) → vs = ns.map V.str
  | _, [], .nil => rfl
  | _, n :: ns, .cons h t => by
    cases h
    rw [List.map_cons, ← Vas.strs t]
theorem vas_strs {H : Hp} {Av : Addr → Prop} : ∀ ns : List Str, Vas H Av (ns.map V.str) (ns.map PyData.str)
  | [] => .nil
  | n :: ns => .cons (.str n) (vas_strs ns)
def dJoin : D → D → Option D
  | .str a, .list xs => match strsD xs with
    | some ys => if (ys.map (·.length)).sum + ys.length * a.length ≤ 16777216 then some (.str (Txt.join a ys)) else none
    | none => none
  | _, _ => none
def dSplit : D → D → Option D
  | .str a, .str b => if (b.length == 0) = false ∧ a.length + 2 ≤ 16777216 then some (.list ((Txt.split a b).map .str)) else none
  | _, _ => none
theorem re_join (ha : RE c a ma) (hb : RW c b mb) (hs : ∀ env, starEach [b] env = [(false, eval b env)] := by intro _; rfl) (hbase : ∀ env, attributeBase a ("join" : Str) env (eval a env) = eval a env := by intro _; rfl) (hline : (apos.endLine == pos.line) = true := by rfl) :
    RE c (.Call (.Attribute a ("join" : Str) apos) [b] [] pos) (eB dJoin ma mb) := by
  obtain ⟨ta, pa, ha⟩ := ha.wk
  obtain ⟨tb, pb, hb⟩ := hb
  refine ⟨_, fun X h => by
    have := pe_join (X := X) (pa X h) (pb X h) (hs _) (hbase _) hline (pos := pos) (apos := apos)
    rw [h.k] at this
    exact this, fun W own σ H env d env' Q ft G e q => ?_⟩
  obtain ⟨x, e1, y, h1, h2, h3⟩ := eB_some e
  refine ha W own σ H env x e1 _ ft G h1 fun v H1 x1 G1 w1 => ?_
  unfold dJoin at h3
  split at h3
  · rename_i z xs
    split at h3
    · rename_i ys hy
      split at h3
      · rename_i hz
        cases h3
        have e0 : v = .str z := w1.vw.str
        subst e0
        refine ⟨⟨z, rfl⟩, hb W own σ H1 e1 _ env' _ ft G1 h2 fun u H2 x2 G2 w2 => ?_⟩
        obtain ⟨p, vs, rfl, r, w⟩ := w2.vw.list
        rw [strsD_some hy] at w
        have := w.strs
        subst this
        exact ⟨z, p, ys, rfl, rfl, .inl (.inl r), hz, q _ H2 (x1.trans x2) G2 (.str _)⟩
      · cases h3
    · cases h3
  · cases h3
theorem rn_split (ha : RE c a ma) (hb : RE c b mb) (hs : ∀ env, starEach [b] env = [(false, eval b env)] := by intro _; rfl) (hbase : ∀ env, attributeBase a ("split" : Str) env (eval a env) = eval a env := by intro _; rfl) (hline : (apos.endLine == pos.line) = true := by rfl) :
    RN c (.Call (.Attribute a ("split" : Str) apos) [b] [] pos) (eB dSplit ma mb) := by
  obtain ⟨ta, pa, ha⟩ := ha.wk
  obtain ⟨tb, pb, hb⟩ := hb.wk
  refine ⟨_, fun X h => pe_split (X := X) (pa X h) (pb X h) (hs _) (hbase _) hline, fun W own σ H env d env' Q ft G e q => ?_⟩
  obtain ⟨x, e1, y, h1, h2, h3⟩ := eB_some e
  refine ha W own σ H env x e1 _ ft G h1 fun v H1 x1 G1 w1 => ?_
  unfold dSplit at h3
  split at h3
  · rename_i z t
    split at h3
    · rename_i hz
      cases h3
      have e0 : v = .str z := w1.vw.str
      subst e0
      refine ⟨⟨z, rfl⟩, hb W own σ H1 e1 _ env' _ ft G1 h2 fun u H2 x2 G2 w2 => ?_⟩
      have e1 : u = .str t := w2.vw.str
      subst e1
      refine ⟨z, t, rfl, rfl, hz.1, line_le hz.2, fun p hp => ?_⟩
      have s := same_upd (o := .lst ((Txt.split z t).map V.str)) hp
      exact q p _ ((x1.trans x2).trans (Ex.same s)) (Ex.new G2 (x1.trans x2) hp) (G2.trk.new hp) ((G2.more hp).same s) ⟨_, _, upd_same, rfl, vas_strs _⟩
    · cases h3
  · cases h3
end
end Fw
set_option Elab.async false
set_option linter.all false
set_option maxRecDepth 100000
/-! Fw11: one rule a sign, a built-in. -/
namespace Fw
open PySem PySem.Spec PyProof.Rows L2
section
variable {c : Ctx} {a b d' : Expr} {es : List Expr} {pos p : Pos} {ma mb mc : EM} {mr : AM}
theorem hu64 {X : Cx} (h : InC c X) : X.A.units + 64 < cLine := h.room.units
theorem hu65 {X : Cx} (h : InC c X) : X.A.units + 65 < cLine := by have := h.room.un; omega
theorem re_add (ha : RW c a ma) (hb : RW c b mb) : RE c (.BinOp a .Add b pos) (eB dAdd ma mb) := re_bin (fun X h => by rw [← h.k]; exact OpR.or (OpR.or op_add op_add_str) op_catA) (p2_add (K := c.K)) ha hb
theorem rn_cat (ha : RW c a ma) (hb : RW c b mb) : RN c (.BinOp a .Add b pos) (eB dCat ma mb) := rn_bin (fun X h => by rw [← h.k]; exact op_catL) (p2n_cat (K := c.K)) ha hb
theorem re_mul (ha : RW c a ma) (hb : RW c b mb) : RE c (.BinOp a .Mult b pos) (eB dMul ma mb) := re_bin (fun X h => by rw [← h.k]; exact OpR.or op_mulW op_repA) (p2_mul (K := c.K)) ha hb
theorem re_neg (ha : RW c a ma) : RE c (.UnaryOp .USub a pos) (eU dNeg ma) := re_un (fun X h => un_neg) p1_neg ha
theorem re_sub (ha : RW c a ma) (hb : RW c b mb) : RE c (.BinOp a .Sub b pos) (eB dSub ma mb) := re_bin (fun X h => op_sub) p2_sub ha hb
theorem re_mod (ha : RW c a ma) (hb : RW c b mb) : RE c (.BinOp a .Mod b pos) (eB dMod ma mb) := re_bin (fun X h => op_mod) p2_mod ha hb
theorem re_div (ha : RW c a ma) (hb : RW c b mb) : RE c (.BinOp a .FloorDiv b pos) (eB dDiv ma mb) := re_bin (fun X h => op_fdivW) p2_div ha hb
theorem re_pow (ha : RW c a ma) (hb : RW c b mb) : RE c (.BinOp a .Pow b pos) (eB dPow ma mb) := re_bin (fun X h => op_pow) p2_pow ha hb
theorem re_lt (ha : RW c a ma) (hb : RW c b mb) : RE c (.Compare a [.Lt] [b] pos) (eB dLt ma mb) := re_cmp (fun X h => op_lt) p2_lt ha hb (nomark _)
theorem rt_lt (ha : RW c a ma) (hb : RW c b mb) : RT c (.Compare a [.Lt] [b] pos) (bV (eB dLt ma mb)) := rt_cmp (fun X h => op_lt) p2_lt ha hb (nomark _)
theorem re_le (ha : RW c a ma) (hb : RW c b mb) : RE c (.Compare a [.LtE] [b] pos) (eB dLe ma mb) := re_cmp (fun X h => op_le) p2_le ha hb (nomark _)
theorem rt_le (ha : RW c a ma) (hb : RW c b mb) : RT c (.Compare a [.LtE] [b] pos) (bV (eB dLe ma mb)) := rt_cmp (fun X h => op_le) p2_le ha hb (nomark _)
theorem re_gt (ha : RW c a ma) (hb : RW c b mb) : RE c (.Compare a [.Gt] [b] pos) (eB dGt ma mb) := re_cmp (fun X h => op_gt) p2_gt ha hb (nomark _)
theorem rt_gt (ha : RW c a ma) (hb : RW c b mb) : RT c (.Compare a [.Gt] [b] pos) (bV (eB dGt ma mb)) := rt_cmp (fun X h => op_gt) p2_gt ha hb (nomark _)
theorem re_ge (ha : RW c a ma) (hb : RW c b mb) : RE c (.Compare a [.GtE] [b] pos) (eB dGe ma mb) := re_cmp (fun X h => op_ge) p2_ge ha hb (nomark _)
theorem rt_ge (ha : RW c a ma) (hb : RW c b mb) : RT c (.Compare a [.GtE] [b] pos) (bV (eB dGe ma mb)) := rt_cmp (fun X h => op_ge) p2_ge ha hb (nomark _)
theorem re_eq (ha : RW c a ma) (hb : RW c b mb) : RE c (.Compare a [.Eq] [b] pos) (eB dEq ma mb) := re_cmp (fun X h => (by rw [← h.k]; exact OpR.or op_eq (op_eqD (hu64 h)))) (p2_eq (K := c.K)) ha hb (nomark _)
theorem rt_eq (ha : RW c a ma) (hb : RW c b mb) : RT c (.Compare a [.Eq] [b] pos) (bV (eB dEq ma mb)) := rt_cmp (fun X h => (by rw [← h.k]; exact OpR.or op_eq (op_eqD (hu64 h)))) (p2_eq (K := c.K)) ha hb (nomark _)
theorem re_ne (ha : RW c a ma) (hb : RW c b mb) : RE c (.Compare a [.NotEq] [b] pos) (eB dNe ma mb) := re_cmp (fun X h => (by rw [← h.k]; exact OpR.or op_ne (op_neD (hu64 h)))) (p2_ne (K := c.K)) ha hb (nomark _)
theorem rt_ne (ha : RW c a ma) (hb : RW c b mb) : RT c (.Compare a [.NotEq] [b] pos) (bV (eB dNe ma mb)) := rt_cmp (fun X h => (by rw [← h.k]; exact OpR.or op_ne (op_neD (hu64 h)))) (p2_ne (K := c.K)) ha hb (nomark _)
theorem re_in (ha : RW c a ma) (hb : RW c b mb) (hm : behindInMarks .In b = false := by rfl) : RE c (.Compare a [.In] [b] pos) (eB dIn ma mb) := re_cmp (fun X h => (by rw [← h.k]; exact OpR.or (op_inD (hu65 h)) op_in_seq)) (p2_in (K := c.K)) ha hb hm
theorem rt_in (ha : RW c a ma) (hb : RW c b mb) (hm : behindInMarks .In b = false := by rfl) : RT c (.Compare a [.In] [b] pos) (bV (eB dIn ma mb)) := rt_cmp (fun X h => (by rw [← h.k]; exact OpR.or (op_inD (hu65 h)) op_in_seq)) (p2_in (K := c.K)) ha hb hm
theorem re_notIn (ha : RW c a ma) (hb : RW c b mb) (hm : behindInMarks .NotIn b = false := by rfl) : RE c (.Compare a [.NotIn] [b] pos) (eB dNotIn ma mb) := re_cmp (fun X h => (by rw [← h.k]; exact OpR.or (op_notInD (hu65 h)) op_notIn_seq)) (p2_notIn (K := c.K)) ha hb hm
theorem rt_notIn (ha : RW c a ma) (hb : RW c b mb) (hm : behindInMarks .NotIn b = false := by rfl) : RT c (.Compare a [.NotIn] [b] pos) (bV (eB dNotIn ma mb)) := rt_cmp (fun X h => (by rw [← h.k]; exact OpR.or (op_notInD (hu65 h)) op_notIn_seq)) (p2_notIn (K := c.K)) ha hb hm
theorem re_is (ha : RW c a ma) (hb : RW c b mb) : RE c (.Compare a [.Is] [b] pos) (eB dIs ma mb) := re_cmp (fun X h => op_isN) p2_is ha hb (nomark _)
theorem rt_is (ha : RW c a ma) (hb : RW c b mb) : RT c (.Compare a [.Is] [b] pos) (bV (eB dIs ma mb)) := rt_cmp (fun X h => op_isN) p2_is ha hb (nomark _)
theorem re_isNot (ha : RW c a ma) (hb : RW c b mb) : RE c (.Compare a [.IsNot] [b] pos) (eB dIsNot ma mb) := re_cmp (fun X h => op_notN) p2_isNot ha hb (nomark _)
theorem rt_isNot (ha : RW c a ma) (hb : RW c b mb) : RT c (.Compare a [.IsNot] [b] pos) (bV (eB dIsNot ma mb)) := rt_cmp (fun X h => op_notN) p2_isNot ha hb (nomark _)
theorem re_ltLt (ha : RW c a ma) (hb : RW c b mb) (hc : RW c d' mc) (hm : lastMarks [.Lt, .Lt] [b, d'] = false := by with_unfolding_all rfl) : RE c (.Compare a [.Lt, .Lt] [b, d'] pos) (eCh dLt dLt ma mb mc) := re_chain (fun X h => op_lt) (fun X h => op_lt) p2_lt p2_lt ha hb hc hm
theorem rt_ltLt (ha : RW c a ma) (hb : RW c b mb) (hc : RW c d' mc) (hm : lastMarks [.Lt, .Lt] [b, d'] = false := by with_unfolding_all rfl) : RT c (.Compare a [.Lt, .Lt] [b, d'] pos) (bV (eCh dLt dLt ma mb mc)) := rt_chain (fun X h => op_lt) (fun X h => op_lt) p2_lt p2_lt ha hb hc hm
theorem re_ltLe (ha : RW c a ma) (hb : RW c b mb) (hc : RW c d' mc) (hm : lastMarks [.Lt, .LtE] [b, d'] = false := by with_unfolding_all rfl) : RE c (.Compare a [.Lt, .LtE] [b, d'] pos) (eCh dLt dLe ma mb mc) := re_chain (fun X h => op_lt) (fun X h => op_le) p2_lt p2_le ha hb hc hm
theorem rt_ltLe (ha : RW c a ma) (hb : RW c b mb) (hc : RW c d' mc) (hm : lastMarks [.Lt, .LtE] [b, d'] = false := by with_unfolding_all rfl) : RT c (.Compare a [.Lt, .LtE] [b, d'] pos) (bV (eCh dLt dLe ma mb mc)) := rt_chain (fun X h => op_lt) (fun X h => op_le) p2_lt p2_le ha hb hc hm
theorem re_ltGt (ha : RW c a ma) (hb : RW c b mb) (hc : RW c d' mc) (hm : lastMarks [.Lt, .Gt] [b, d'] = false := by with_unfolding_all rfl) : RE c (.Compare a [.Lt, .Gt] [b, d'] pos) (eCh dLt dGt ma mb mc) := re_chain (fun X h => op_lt) (fun X h => op_gt) p2_lt p2_gt ha hb hc hm
theorem rt_ltGt (ha : RW c a ma) (hb : RW c b mb) (hc : RW c d' mc) (hm : lastMarks [.Lt, .Gt] [b, d'] = false := by with_unfolding_all rfl) : RT c (.Compare a [.Lt, .Gt] [b, d'] pos) (bV (eCh dLt dGt ma mb mc)) := rt_chain (fun X h => op_lt) (fun X h => op_gt) p2_lt p2_gt ha hb hc hm
theorem re_ltGe (ha : RW c a ma) (hb : RW c b mb) (hc : RW c d' mc) (hm : lastMarks [.Lt, .GtE] [b, d'] = false := by with_unfolding_all rfl) : RE c (.Compare a [.Lt, .GtE] [b, d'] pos) (eCh dLt dGe ma mb mc) := re_chain (fun X h => op_lt) (fun X h => op_ge) p2_lt p2_ge ha hb hc hm
theorem rt_ltGe (ha : RW c a ma) (hb : RW c b mb) (hc : RW c d' mc) (hm : lastMarks [.Lt, .GtE] [b, d'] = false := by with_unfolding_all rfl) : RT c (.Compare a [.Lt, .GtE] [b, d'] pos) (bV (eCh dLt dGe ma mb mc)) := rt_chain (fun X h => op_lt) (fun X h => op_ge) p2_lt p2_ge ha hb hc hm
theorem re_leLt (ha : RW c a ma) (hb : RW c b mb) (hc : RW c d' mc) (hm : lastMarks [.LtE, .Lt] [b, d'] = false := by with_unfolding_all rfl) : RE c (.Compare a [.LtE, .Lt] [b, d'] pos) (eCh dLe dLt ma mb mc) := re_chain (fun X h => op_le) (fun X h => op_lt) p2_le p2_lt ha hb hc hm
theorem rt_leLt (ha : RW c a ma) (hb : RW c b mb) (hc : RW c d' mc) (hm : lastMarks [.LtE, .Lt] [b, d'] = false := by with_unfolding_all rfl) : RT c (.Compare a [.LtE, .Lt] [b, d'] pos) (bV (eCh dLe dLt ma mb mc)) := rt_chain (fun X h => op_le) (fun X h => op_lt) p2_le p2_lt ha hb hc hm
theorem re_leLe (ha : RW c a ma) (hb : RW c b mb) (hc : RW c d' mc) (hm : lastMarks [.LtE, .LtE] [b, d'] = false := by with_unfolding_all rfl) : RE c (.Compare a [.LtE, .LtE] [b, d'] pos) (eCh dLe dLe ma mb mc) := re_chain (fun X h => op_le) (fun X h => op_le) p2_le p2_le ha hb hc hm
theorem rt_leLe (ha : RW c a ma) (hb : RW c b mb) (hc : RW c d' mc) (hm : lastMarks [.LtE, .LtE] [b, d'] = false := by with_unfolding_all rfl) : RT c (.Compare a [.LtE, .LtE] [b, d'] pos) (bV (eCh dLe dLe ma mb mc)) := rt_chain (fun X h => op_le) (fun X h => op_le) p2_le p2_le ha hb hc hm
theorem re_leGt (ha : RW c a ma) (hb : RW c b mb) (hc : RW c d' mc) (hm : lastMarks [.LtE, .Gt] [b, d'] = false := by with_unfolding_all rfl) : RE c (.Compare a [.LtE, .Gt] [b, d'] pos) (eCh dLe dGt ma mb mc) := re_chain (fun X h => op_le) (fun X h => op_gt) p2_le p2_gt ha hb hc hm
theorem rt_leGt (ha : RW c a ma) (hb : RW c b mb) (hc : RW c d' mc) (hm : lastMarks [.LtE, .Gt] [b, d'] = false := by with_unfolding_all rfl) : RT c (.Compare a [.LtE, .Gt] [b, d'] pos) (bV (eCh dLe dGt ma mb mc)) := rt_chain (fun X h => op_le) (fun X h => op_gt) p2_le p2_gt ha hb hc hm
theorem re_leGe (ha : RW c a ma) (hb : RW c b mb) (hc : RW c d' mc) (hm : lastMarks [.LtE, .GtE] [b, d'] = false := by with_unfolding_all rfl) : RE c (.Compare a [.LtE, .GtE] [b, d'] pos) (eCh dLe dGe ma mb mc) := re_chain (fun X h => op_le) (fun X h => op_ge) p2_le p2_ge ha hb hc hm
theorem rt_leGe (ha : RW c a ma) (hb : RW c b mb) (hc : RW c d' mc) (hm : lastMarks [.LtE, .GtE] [b, d'] = false := by with_unfolding_all rfl) : RT c (.Compare a [.LtE, .GtE] [b, d'] pos) (bV (eCh dLe dGe ma mb mc)) := rt_chain (fun X h => op_le) (fun X h => op_ge) p2_le p2_ge ha hb hc hm
theorem re_gtLt (ha : RW c a ma) (hb : RW c b mb) (hc : RW c d' mc) (hm : lastMarks [.Gt, .Lt] [b, d'] = false := by with_unfolding_all rfl) : RE c (.Compare a [.Gt, .Lt] [b, d'] pos) (eCh dGt dLt ma mb mc) := re_chain (fun X h => op_gt) (fun X h => op_lt) p2_gt p2_lt ha hb hc hm
theorem rt_gtLt (ha : RW c a ma) (hb : RW c b mb) (hc : RW c d' mc) (hm : lastMarks [.Gt, .Lt] [b, d'] = false := by with_unfolding_all rfl) : RT c (.Compare a [.Gt, .Lt] [b, d'] pos) (bV (eCh dGt dLt ma mb mc)) := rt_chain (fun X h => op_gt) (fun X h => op_lt) p2_gt p2_lt ha hb hc hm
theorem re_gtLe (ha : RW c a ma) (hb : RW c b mb) (hc : RW c d' mc) (hm : lastMarks [.Gt, .LtE] [b, d'] = false := by with_unfolding_all rfl) : RE c (.Compare a [.Gt, .LtE] [b, d'] pos) (eCh dGt dLe ma mb mc) := re_chain (fun X h => op_gt) (fun X h => op_le) p2_gt p2_le ha hb hc hm
theorem rt_gtLe (ha : RW c a ma) (hb : RW c b mb) (hc : RW c d' mc) (hm : lastMarks [.Gt, .LtE] [b, d'] = false := by with_unfolding_all rfl) : RT c (.Compare a [.Gt, .LtE] [b, d'] pos) (bV (eCh dGt dLe ma mb mc)) := rt_chain (fun X h => op_gt) (fun X h => op_le) p2_gt p2_le ha hb hc hm
theorem re_gtGt (ha : RW c a ma) (hb : RW c b mb) (hc : RW c d' mc) (hm : lastMarks [.Gt, .Gt] [b, d'] = false := by with_unfolding_all rfl) : RE c (.Compare a [.Gt, .Gt] [b, d'] pos) (eCh dGt dGt ma mb mc) := re_chain (fun X h => op_gt) (fun X h => op_gt) p2_gt p2_gt ha hb hc hm
theorem rt_gtGt (ha : RW c a ma) (hb : RW c b mb) (hc : RW c d' mc) (hm : lastMarks [.Gt, .Gt] [b, d'] = false := by with_unfolding_all rfl) : RT c (.Compare a [.Gt, .Gt] [b, d'] pos) (bV (eCh dGt dGt ma mb mc)) := rt_chain (fun X h => op_gt) (fun X h => op_gt) p2_gt p2_gt ha hb hc hm
theorem re_gtGe (ha : RW c a ma) (hb : RW c b mb) (hc : RW c d' mc) (hm : lastMarks [.Gt, .GtE] [b, d'] = false := by with_unfolding_all rfl) : RE c (.Compare a [.Gt, .GtE] [b, d'] pos) (eCh dGt dGe ma mb mc) := re_chain (fun X h => op_gt) (fun X h => op_ge) p2_gt p2_ge ha hb hc hm
theorem rt_gtGe (ha : RW c a ma) (hb : RW c b mb) (hc : RW c d' mc) (hm : lastMarks [.Gt, .GtE] [b, d'] = false := by with_unfolding_all rfl) : RT c (.Compare a [.Gt, .GtE] [b, d'] pos) (bV (eCh dGt dGe ma mb mc)) := rt_chain (fun X h => op_gt) (fun X h => op_ge) p2_gt p2_ge ha hb hc hm
theorem re_geLt (ha : RW c a ma) (hb : RW c b mb) (hc : RW c d' mc) (hm : lastMarks [.GtE, .Lt] [b, d'] = false := by with_unfolding_all rfl) : RE c (.Compare a [.GtE, .Lt] [b, d'] pos) (eCh dGe dLt ma mb mc) := re_chain (fun X h => op_ge) (fun X h => op_lt) p2_ge p2_lt ha hb hc hm
theorem rt_geLt (ha : RW c a ma) (hb : RW c b mb) (hc : RW c d' mc) (hm : lastMarks [.GtE, .Lt] [b, d'] = false := by with_unfolding_all rfl) : RT c (.Compare a [.GtE, .Lt] [b, d'] pos) (bV (eCh dGe dLt ma mb mc)) := rt_chain (fun X h => op_ge) (fun X h => op_lt) p2_ge p2_lt ha hb hc hm
theorem re_geLe (ha : RW c a ma) (hb : RW c b mb) (hc : RW c d' mc) (hm : lastMarks [.GtE, .LtE] [b, d'] = false := by with_unfolding_all rfl) : RE c (.Compare a [.GtE, .LtE] [b, d'] pos) (eCh dGe dLe ma mb mc) := re_chain (fun X h => op_ge) (fun X h => op_le) p2_ge p2_le ha hb hc hm
theorem rt_geLe (ha : RW c a ma) (hb : RW c b mb) (hc : RW c d' mc) (hm : lastMarks [.GtE, .LtE] [b, d'] = false := by with_unfolding_all rfl) : RT c (.Compare a [.GtE, .LtE] [b, d'] pos) (bV (eCh dGe dLe ma mb mc)) := rt_chain (fun X h => op_ge) (fun X h => op_le) p2_ge p2_le ha hb hc hm
theorem re_geGt (ha : RW c a ma) (hb : RW c b mb) (hc : RW c d' mc) (hm : lastMarks [.GtE, .Gt] [b, d'] = false := by with_unfolding_all rfl) : RE c (.Compare a [.GtE, .Gt] [b, d'] pos) (eCh dGe dGt ma mb mc) := re_chain (fun X h => op_ge) (fun X h => op_gt) p2_ge p2_gt ha hb hc hm
theorem rt_geGt (ha : RW c a ma) (hb : RW c b mb) (hc : RW c d' mc) (hm : lastMarks [.GtE, .Gt] [b, d'] = false := by with_unfolding_all rfl) : RT c (.Compare a [.GtE, .Gt] [b, d'] pos) (bV (eCh dGe dGt ma mb mc)) := rt_chain (fun X h => op_ge) (fun X h => op_gt) p2_ge p2_gt ha hb hc hm
theorem re_geGe (ha : RW c a ma) (hb : RW c b mb) (hc : RW c d' mc) (hm : lastMarks [.GtE, .GtE] [b, d'] = false := by with_unfolding_all rfl) : RE c (.Compare a [.GtE, .GtE] [b, d'] pos) (eCh dGe dGe ma mb mc) := re_chain (fun X h => op_ge) (fun X h => op_ge) p2_ge p2_ge ha hb hc hm
theorem rt_geGe (ha : RW c a ma) (hb : RW c b mb) (hc : RW c d' mc) (hm : lastMarks [.GtE, .GtE] [b, d'] = false := by with_unfolding_all rfl) : RT c (.Compare a [.GtE, .GtE] [b, d'] pos) (bV (eCh dGe dGe ma mb mc)) := rt_chain (fun X h => op_ge) (fun X h => op_ge) p2_ge p2_ge ha hb hc hm
theorem re_len (hm : c.mg ("len" : Str) = none) (ha : RA c (a :: es) mr) (hg : c.sc.names.lookup ("len" : Str) = some .globalImplicit := by rfl)
    (he : ∀ env, starEach (a :: es) env = (false, eval a env) :: starEach es env := by intro _; rfl) (hpl : ∀ env, (backTo pos (starEach es env)).any (·.1) = false := by intro _; rfl) : RE c (.Call (.Name ("len" : Str) p) (a :: es) [] pos) (eF (f1 dLen) mr) :=
  re_callB (fun X h => by first | exact call_len | (rw [← h.k]; exact call_len)) (pl_len (K := c.K)) hg hm PySem.boot_len ha (he := he) (hpl := hpl)
theorem re_abs (hm : c.mg ("abs" : Str) = none) (ha : RA c (a :: es) mr) (hg : c.sc.names.lookup ("abs" : Str) = some .globalImplicit := by rfl)
    (he : ∀ env, starEach (a :: es) env = (false, eval a env) :: starEach es env := by intro _; rfl) (hpl : ∀ env, (backTo pos (starEach es env)).any (·.1) = false := by intro _; rfl) : RE c (.Call (.Name ("abs" : Str) p) (a :: es) [] pos) (eF (f1 dAbs) mr) :=
  re_callB (fun X h => by first | exact call_abs | (rw [← h.k]; exact call_abs)) pl_abs hg hm (by decide +kernel) ha (he := he) (hpl := hpl)
theorem re_sum (hm : c.mg ("sum" : Str) = none) (ha : RA c (a :: es) mr) (hg : c.sc.names.lookup ("sum" : Str) = some .globalImplicit := by rfl)
    (he : ∀ env, starEach (a :: es) env = (false, eval a env) :: starEach es env := by intro _; rfl) (hpl : ∀ env, (backTo pos (starEach es env)).any (·.1) = false := by intro _; rfl) : RE c (.Call (.Name ("sum" : Str) p) (a :: es) [] pos) (eF (f1 dSum) mr) :=
  re_callB (fun X h => by first | exact (cr_sum h.calm) | (rw [← h.k]; exact (cr_sum h.calm))) (pl_sum (K := c.K)) hg hm (by decide +kernel) ha (he := he) (hpl := hpl)
theorem re_all (hm : c.mg ("all" : Str) = none) (ha : RA c (a :: es) mr) (hg : c.sc.names.lookup ("all" : Str) = some .globalImplicit := by rfl)
    (he : ∀ env, starEach (a :: es) env = (false, eval a env) :: starEach es env := by intro _; rfl) (hpl : ∀ env, (backTo pos (starEach es env)).any (·.1) = false := by intro _; rfl) : RE c (.Call (.Name ("all" : Str) p) (a :: es) [] pos) (eF (f1 dAll) mr) :=
  re_callB (fun X h => by first | exact (cr_all h.calm) | (rw [← h.k]; exact (cr_all h.calm))) (pl_all (K := c.K)) hg hm (by decide +kernel) ha (he := he) (hpl := hpl)
theorem re_any (hm : c.mg ("any" : Str) = none) (ha : RA c (a :: es) mr) (hg : c.sc.names.lookup ("any" : Str) = some .globalImplicit := by rfl)
    (he : ∀ env, starEach (a :: es) env = (false, eval a env) :: starEach es env := by intro _; rfl) (hpl : ∀ env, (backTo pos (starEach es env)).any (·.1) = false := by intro _; rfl) : RE c (.Call (.Name ("any" : Str) p) (a :: es) [] pos) (eF (f1 dAny) mr) :=
  re_callB (fun X h => by first | exact (cr_any h.calm) | (rw [← h.k]; exact (cr_any h.calm))) (pl_any (K := c.K)) hg hm (by decide +kernel) ha (he := he) (hpl := hpl)
theorem re_min (hm : c.mg ("min" : Str) = none) (ha : RA c (a :: es) mr) (hg : c.sc.names.lookup ("min" : Str) = some .globalImplicit := by rfl)
    (he : ∀ env, starEach (a :: es) env = (false, eval a env) :: starEach es env := by intro _; rfl) (hpl : ∀ env, (backTo pos (starEach es env)).any (·.1) = false := by intro _; rfl) : RE c (.Call (.Name ("min" : Str) p) (a :: es) [] pos) (eF (f2 dMin2) mr) :=
  re_callB (fun X h => by first | exact (call_min2 h.calm) | (rw [← h.k]; exact (call_min2 h.calm))) pl_min2 hg hm (by decide +kernel) ha (he := he) (hpl := hpl)
theorem re_max (hm : c.mg ("max" : Str) = none) (ha : RA c (a :: es) mr) (hg : c.sc.names.lookup ("max" : Str) = some .globalImplicit := by rfl)
    (he : ∀ env, starEach (a :: es) env = (false, eval a env) :: starEach es env := by intro _; rfl) (hpl : ∀ env, (backTo pos (starEach es env)).any (·.1) = false := by intro _; rfl) : RE c (.Call (.Name ("max" : Str) p) (a :: es) [] pos) (eF (f2 dMax2) mr) :=
  re_callB (fun X h => by first | exact (call_max2 h.calm) | (rw [← h.k]; exact (call_max2 h.calm))) pl_max2 hg hm (by decide +kernel) ha (he := he) (hpl := hpl)
theorem re_divmod (hm : c.mg ("divmod" : Str) = none) (ha : RA c (a :: es) mr) (hg : c.sc.names.lookup ("divmod" : Str) = some .globalImplicit := by rfl)
    (he : ∀ env, starEach (a :: es) env = (false, eval a env) :: starEach es env := by intro _; rfl) (hpl : ∀ env, (backTo pos (starEach es env)).any (·.1) = false := by intro _; rfl) : RE c (.Call (.Name ("divmod" : Str) p) (a :: es) [] pos) (eF (f2 dDivmod) mr) :=
  re_callB (fun X h => by first | exact call_divmodW | (rw [← h.k]; exact call_divmodW)) pl_divmod hg hm (by decide +kernel) ha (he := he) (hpl := hpl)
theorem re_toInt (hm : c.mg ("int" : Str) = none) (ha : RA c (a :: es) mr) (hg : c.sc.names.lookup ("int" : Str) = some .globalImplicit := by rfl)
    (he : ∀ env, starEach (a :: es) env = (false, eval a env) :: starEach es env := by intro _; rfl) (hpl : ∀ env, (backTo pos (starEach es env)).any (·.1) = false := by intro _; rfl) : RE c (.Call (.Name ("int" : Str) p) (a :: es) [] pos) (eF (f1 dInt) mr) :=
  re_callT (fun X h => by first | exact call_int1 | (rw [← h.k]; exact call_int1)) pl_int hg hm (by decide +kernel) ha (he := he) (hpl := hpl)
theorem re_toIntS (hm : c.mg ("int" : Str) = none) (ha : RA c (a :: es) mr) (hg : c.sc.names.lookup ("int" : Str) = some .globalImplicit := by rfl)
    (he : ∀ env, starEach (a :: es) env = (false, eval a env) :: starEach es env := by intro _; rfl) (hpl : ∀ env, (backTo pos (starEach es env)).any (·.1) = false := by intro _; rfl) : RE c (.Call (.Name ("int" : Str) p) (a :: es) [] pos) (eF (f1 dIntS) mr) :=
  re_callT (fun X h => by first | exact call_int_str | (rw [← h.k]; exact call_int_str)) pl_intS hg hm (by decide +kernel) ha (he := he) (hpl := hpl)
theorem re_toStr (hm : c.mg ("str" : Str) = none) (ha : RA c (a :: es) mr) (hg : c.sc.names.lookup ("str" : Str) = some .globalImplicit := by rfl)
    (he : ∀ env, starEach (a :: es) env = (false, eval a env) :: starEach es env := by intro _; rfl) (hpl : ∀ env, (backTo pos (starEach es env)).any (·.1) = false := by intro _; rfl) : RE c (.Call (.Name ("str" : Str) p) (a :: es) [] pos) (eF (f1 dStr) mr) :=
  re_callT (fun X h => by first | exact call_str_int | (rw [← h.k]; exact call_str_int)) pl_str hg hm (by decide +kernel) ha (he := he) (hpl := hpl)
theorem re_tuple (hm : c.mg ("tuple" : Str) = none) (ha : RA c (a :: es) mr) (hg : c.sc.names.lookup ("tuple" : Str) = some .globalImplicit := by rfl)
    (he : ∀ env, starEach (a :: es) env = (false, eval a env) :: starEach es env := by intro _; rfl) (hpl : ∀ env, (backTo pos (starEach es env)).any (·.1) = false := by intro _; rfl) : RE c (.Call (.Name ("tuple" : Str) p) (a :: es) [] pos) (eF (f1 dTuple) mr) :=
  re_callT (fun X h => by first | exact call_tuple_of | (rw [← h.k]; exact call_tuple_of)) (pl_tuple (K := c.K)) hg hm (by decide +kernel) ha (he := he) (hpl := hpl)
theorem rn_list (hm : c.mg ("list" : Str) = none) (ha : RA c (a :: es) mr) (hg : c.sc.names.lookup ("list" : Str) = some .globalImplicit := by rfl)
    (he : ∀ env, starEach (a :: es) env = (false, eval a env) :: starEach es env := by intro _; rfl) (hpl : ∀ env, (backTo pos (starEach es env)).any (·.1) = false := by intro _; rfl) : RN c (.Call (.Name ("list" : Str) p) (a :: es) [] pos) (eF (f1 dList) mr) :=
  rn_callT (fun X h => by first | exact call_list_of | (rw [← h.k]; exact call_list_of)) (pln_list (K := c.K)) hg hm (by decide +kernel) ha (he := he) (hpl := hpl)
/-- list(range(n)) -/
theorem ra_len {x : AM} {env env' : Env} {ds : List D} {n : Nat} : True := trivial
end
/-- how many an argument list gives -/
theorem aN_len : ∀ (env : Env) (ds : List D) (env' : Env), aN env = some (ds, env') → ds.length = 0 := fun _ _ _ h => by cases h; rfl
theorem aC_len {a : EM} {r : AM} {n : Nat} (h : ∀ (env : Env) (ds : List D) (env' : Env), r env = some (ds, env') → ds.length = n) : ∀ (env : Env) (ds : List D) (env' : Env), aC a r env = some (ds, env') → ds.length = n + 1 := fun env ds env' e => by
  obtain ⟨x, e1, xs, _, h2, rfl⟩ := aC_some e
  rw [List.length_cons, h _ _ _ h2]
end Fw
set_option Elab.async false
set_option linter.all false
set_option maxRecDepth 100000
set_option maxHeartbeats 2000000
/-! Fw12: repr of data; isinstance; exceptions as data: made, asked. -/
namespace Fw
open PySem PySem.Spec PyProof.Rows L2

/-! ### {} -/
theorem re_dic {c : Ctx} {pos : Pos} : RE c (.Dict [] [] pos) (eC (.dict [])) := by
  refine ⟨tDNewK, fun X h => pe_dnewK, fun W own σ H env d env' Q ft G e q => fun p hp => ?_⟩
  cases e
  have s := same_upd (o := .dK []) hp
  exact q _ _ (Ex.same s) (G.same s) (.dic (.inl upd_same) (G.trk.new hp))

/-! ### repr -/
mutual
def plain : D → Bool
  | .list xs => plains xs
  | .tuple xs => plains xs
  | .dict kvs => kvs.isEmpty
  | _ => true
def plains : List D → Bool
  | [] => true
  | d :: ds => plain d && plains ds
end
theorem dict0 {prog : Program} {w : World} {K : Type} [DecidableEq K] {knd : PySem.KeyKind prog w K} {h : Heap} {a : Addr} (dd : h.DictOf knd a []) : ∃ o es ep, h.get? a = some o ∧ o.ExactDict ∧ o.data = .dict es ep ∧ es.toList = [] := by
  obtain ⟨o, es, ep, h1, h2, h3, h4, h5, h6⟩ := dd
  refine ⟨o, es, ep, h1, h2, h3, ?_⟩
  cases q : es.toList with
  | nil => rfl
  | cons z r => rw [q] at h5; cases h5
section
variable {X : Cx} {pins : List (Addr × Obj)} {σ : L2.St} {H : Hp} {s : Shared} {Av : Addr → Prop}
mutual
theorem Va.reads (I : L2.Inv X pins σ H s) : ∀ (d : D) (v : V) (u : Value), plain d = true → Va H Av v d → RelV v u → ∃ as, Reads s.heap u d as
  | .none, _, _, _, h, r => by cases h; cases r; exact ⟨_, Reads.none⟩
  | .bool b, _, _, _, h, r => by cases h; cases r; exact ⟨_, Reads.bool b⟩
  | .int i, _, _, _, h, r => by cases h; obtain ⟨t, rfl⟩ := r; exact ⟨_, Reads.int i t⟩
  | .str x, _, _, _, h, r => by cases h; obtain ⟨t, rfl⟩ := r; exact ⟨_, Reads.str x t⟩
  | .list ds, _, _, p, h, r => by
    cases h with
    | @lst a xs _ rd n w =>
      cases r
      obtain ⟨_, its, _, rv, e⟩ := (show ObjOk X.prog X.w H s.heap a (.lst xs) from rd.ok I.hok)
      obtain ⟨as, hr⟩ := Vas.reads I ds _ its (by simpa [plain] using p) w rv
      exact ⟨_, Reads.list e rfl rfl hr⟩
  | .tuple ds, _, _, p, h, r => by
    cases h with
    | @tup a xs _ rd n w =>
      cases r
      obtain ⟨_, its, rv, o, ho, hc, k, hd⟩ := (show ObjOk X.prog X.w H s.heap a (.tup xs) from rd.ok I.hok)
      obtain ⟨as, hr⟩ := Vas.reads I ds _ its (by simpa [plain] using p) w rv
      exact ⟨_, Reads.tuple ho hc hd hr⟩
  | .dict [], _, _, _, h, r => by
    cases h with
    | @dic a rd n =>
      cases r
      obtain ⟨_, _, vs, kv, dd⟩ := dk_rd I.hok rd
      cases kv
      obtain ⟨o, es, ep, ho, hx, hd, hz⟩ := dict0 dd
      exact ⟨_, Reads.dict (as := []) (bs := []) ho hx.1 hd (by rw [hz]; exact .nil) (by rw [hz]; exact .nil)⟩
  | .dict (_ :: _), _, _, p, _, _ => by simp [plain] at p
theorem Vas.reads (I : L2.Inv X pins σ H s) : ∀ (ds : List D) (vs : List V) (us : List Value), plains ds = true → Vas H Av vs ds → Vals vs us → ∃ as, ReadsAll s.heap us ds as
  | [], _, _, _, h, r => by cases h; cases r; exact ⟨_, ReadsAll.nil⟩
  | d :: ds, _, _, p, h, r => by
    cases h with
    | cons h1 h2 =>
      cases r with
      | cons r1 r2 =>
        simp only [plains, Bool.and_eq_true] at p
        obtain ⟨as, q1⟩ := Va.reads I d _ _ p.1 h1 r1
        obtain ⟨bs, q2⟩ := Vas.reads I ds _ _ p.2 h2 r2
        exact ⟨_, ReadsAll.cons q1 q2⟩
end
/-- repr of such data, part by part -/
abbrev RpK (X : Cx) (s : Shared) (u : Value) (d : D) : Prop := ∃ bs, ReadAtMost s.heap d.depth bs ∧ ReprK X.prog X.w bs s.heap d.depth u d.shown
mutual
theorem Va.rpr (I : L2.Inv X pins σ H s) : ∀ (d : D) (v : V) (u : Value), plain d = true → d.showable = true → d.shown.length ≤ sizeLine → Va H Av v d → RelV v u → RpK X s u d
  | .none, _, _, _, _, _, h, r => by cases h; cases r; exact ⟨[], (fun _ q => nomatch q), by simp only [PyData.shown]; exact .of_is ReprIs.none _ _ _⟩
  | .bool b, _, _, _, _, _, h, r => by cases h; cases r; exact ⟨[], (fun _ q => nomatch q), by simp only [PyData.shown]; exact .of_is (ReprIs.bool b) _ _ _⟩
  | .int i, _, _, _, sh, _, h, r => by cases h; obtain ⟨t, rfl⟩ := r; exact ⟨[], (fun _ q => nomatch q), by simp only [PyData.shown]; exact .of_is (ReprIs.int t (by simpa [PyData.showable] using sh)) _ _ _⟩
  | .str x, _, _, _, _, z, h, r => by cases h; obtain ⟨t, rfl⟩ := r; exact ⟨[], (fun _ q => nomatch q), by simp only [PyData.shown]; exact .of_is (ReprIs.str x t (by simpa only [PyData.shown] using z)) _ _ _⟩
  | .list ds, _, _, p, sh, z, h, r => by
    obtain ⟨as0, r0⟩ := Va.reads I (.list ds) _ _ p h r
    cases h with
    | @lst a xs _ rd n w =>
      cases r
      obtain ⟨_, its, _, rv, e⟩ := (show ObjOk X.prog X.w H s.heap a (.lst xs) from rd.ok I.hok)
      have z2 : (listText (PyData.shownAll ds)).length ≤ sizeLine := by simpa only [PyData.shown] using z
      obtain ⟨bs, hb, hk⟩ := Vas.rpr I ds _ its (by simpa [plain] using p) (by simpa [PyData.showable] using sh) (fun t ht => Nat.le_trans (listText_mem_le ht) z2) w rv
      have na : a ∉ bs := not_mem_of_deeper r0 (by simp only [PyData.depth]; omega) hb
      refine ⟨a :: bs, ReadAtMost.cons r0 (by simp only [PyData.depth]; omega) hb, ?_⟩
      simp only [PyData.depth, PyData.shown]
      cases its with
      | nil =>
        cases rv
        cases w
        simp only [PyData.shownAll, listText_nil]
        exact ReprK.listEmpty e rfl rfl
      | cons y l => exact ReprK.list e rfl rfl na (by simpa using hk.length_eq) fun i y q => hk.item i y (by simpa using q)
  | .tuple ds, _, _, p, sh, z, h, r => by
    obtain ⟨as0, r0⟩ := Va.reads I (.tuple ds) _ _ p h r
    cases h with
    | @tup a xs _ rd n w =>
      cases r
      obtain ⟨_, its, rv, o, ho, hc, k, hd⟩ := (show ObjOk X.prog X.w H s.heap a (.tup xs) from rd.ok I.hok)
      have z2 : (tupleText (PyData.shownAll ds)).length ≤ sizeLine := by simpa only [PyData.shown] using z
      obtain ⟨bs, hb, hk⟩ := Vas.rpr I ds _ its (by simpa [plain] using p) (by simpa [PyData.showable] using sh) (fun t ht => Nat.le_trans (tupleText_mem_le ht) z2) w rv
      have na : a ∉ bs := not_mem_of_deeper r0 (by simp only [PyData.depth]; omega) hb
      refine ⟨a :: bs, ReadAtMost.cons r0 (by simp only [PyData.depth]; omega) hb, ?_⟩
      simp only [PyData.depth, PyData.shown]
      exact ReprK.tuple ho hc hd na hk
  | .dict [], _, _, p, _, z, h, r => by
    obtain ⟨as0, r0⟩ := Va.reads I (.dict []) _ _ p h r
    cases h with
    | @dic a rd n =>
      cases r
      obtain ⟨_, sys, vs, kv, dd⟩ := dk_rd I.hok rd
      cases kv
      obtain ⟨o, es, ep, ho, hx, hd, hz⟩ := dict0 dd
      refine ⟨[a], ReadAtMost.cons (bs := []) r0 (Nat.zero_le _) (fun _ q => nomatch q), ?_⟩
      simp only [PyData.depth, PyData.shown, PyData.shownKv_eq]
      exact ReprK.dict (as := []) ho hx.1 hd sys (fun q => nomatch q) (ReprEntriesK.of_two es.toList _ _ (by rw [hz]; exact .nil) (by rw [hz]; exact .nil))
  | .dict (_ :: _), _, _, p, _, _, _, _ => by simp [plain] at p
theorem Vas.rpr (I : L2.Inv X pins σ H s) : ∀ (ds : List D) (vs : List V) (us : List Value), plains ds = true → PyData.showableAll ds = true → (∀ t ∈ PyData.shownAll ds, t.length ≤ sizeLine) → Vas H Av vs ds → Vals vs us →
    ∃ bs, ReadAtMost s.heap (PyData.depthAll ds) bs ∧ ReprAllK X.prog X.w bs s.heap (PyData.depthAll ds) us (PyData.shownAll ds)
  | [], _, _, _, _, _, h, r => by cases h; cases r; exact ⟨[], (fun _ q => nomatch q), by simp only [PyData.shownAll]; exact .nil⟩
  | d :: ds, _, _, p, sh, z, h, r => by
    cases h with
    | cons h1 h2 =>
      cases r with
      | cons r1 r2 =>
        simp only [plains, Bool.and_eq_true] at p
        have sh2 : d.showable = true ∧ PyData.showableAll ds = true := by simpa [PyData.showableAll] using sh
        obtain ⟨b1, m1, k1⟩ := Va.rpr I d _ _ p.1 sh2.1 (z _ (by simp only [PyData.shownAll]; exact List.mem_cons_self ..)) h1 r1
        obtain ⟨b2, m2, k2⟩ := Vas.rpr I ds _ _ p.2 sh2.2 (fun t ht => z t (by simp only [PyData.shownAll]; exact List.mem_cons_of_mem _ ht)) h2 r2
        refine ⟨b1 ++ b2, fun b hm => ?_, ?_⟩
        · simp only [PyData.depthAll]
          rcases List.mem_append.mp hm with hm | hm
          · obtain ⟨d2, as2, q1, q2⟩ := m1 b hm
            exact ⟨d2, as2, q1, Nat.le_trans q2 (Nat.le_max_left _ _)⟩
          · obtain ⟨d2, as2, q1, q2⟩ := m2 b hm
            exact ⟨d2, as2, q1, Nat.le_trans q2 (Nat.le_max_right _ _)⟩
        · simp only [PyData.depthAll, PyData.shownAll]
          exact .cons ((k1.more fun b hb => List.mem_append_left _ hb).level_le (Nat.le_max_left _ _)) (k2.more_le (fun b hb => List.mem_append_right _ hb) (Nat.le_max_right _ _))
end
end
def isSeq : D → Bool
  | .list _ => true
  | .tuple _ => true
  | _ => false
/-- text of data that repr tells -/
def dRepr (d : D) : Option D := if isSeq d = true ∧ plain d = true ∧ d.showable = true ∧ d.depth ≤ 64 ∧ d.shown.length ≤ 16777216 then some (.str d.shown) else none
def rReprV : List V → Hp → VK → Prop := fun xs H Q => ∃ (v : V) (d : D) (Av : Addr → Prop), xs = [v] ∧ Va H Av v d ∧ isSeq d = true ∧ plain d = true ∧ d.showable = true ∧ d.depth ≤ 64 ∧ d.shown.length ≤ 16777216 ∧ Q (.str d.shown) H
theorem call_reprV {X : Cx} {k : Nat} (hg : X.A.guards = some []) (hr : Room k X.A) : CallR X (.builtin "repr") rReprV := by
  intro pins s σ H xs us Q I r h
  obtain ⟨v, d, Av, rfl, w, hs, hp, hsh, hd, hl, q⟩ := h
  obtain ⟨u, rfl, ru⟩ := vals1 r
  have hu : X.A.units + (d.depth + 1) < cLine := by have := hr.un; omega
  have hl2 : d.shown.length ≤ sizeLine := by rw [sizeLine_eq]; exact hl
  obtain ⟨as0, r0⟩ := Va.reads I d v u hp w ru
  have fin : ∀ (h' : Heap) (t : Tok) (tk : Nat), (∀ b o, s.heap.get? b = some o → h'.get? b = some o) → EP X pins σ Q (.str d.shown t) { s with heap := h', toks := tk } := fun h' t tk hk => ⟨.str _, H, I.kept (t' := tk) hk, ⟨_, rfl⟩, q⟩
  cases w with
  | @lst a xs ds rd n w =>
    cases ru
    obtain ⟨_, its, _, rv, e⟩ := (show ObjOk X.prog X.w H s.heap a (.lst xs) from rd.ok I.hok)
    have z2 : (listText (PyData.shownAll ds)).length ≤ sizeLine := by simpa only [PyData.shown] using hl2
    obtain ⟨bs, hb, hk⟩ := Vas.rpr I ds _ its (by simpa [plain] using hp) (by simpa [PyData.showable] using hsh) (fun t ht => Nat.le_trans (listText_mem_le ht) z2) w rv
    have na : a ∉ bs := not_mem_of_deeper r0 (by simp only [PyData.depth]; omega) hb
    refine call_repr_slot (by omega) ⟨_, e, rfl⟩ F.slot_list_repr.toG ?_
    simp only [PyData.shown] at fin
    simp only [PyData.depth] at hu
    cases its with
    | nil =>
      cases rv
      cases w
      simp only [PyData.shownAll, listText_nil] at fin
      exact call_list_repr_empty ⟨_, e, rfl⟩ e rfl ⟨_, _, rfl, fin s.heap _ _ fun _ _ q => q⟩
    | cons y l =>
      exact call_list_reprK e rfl rfl na (by simpa using hk.length_eq) (fun i y q => hk.item i y (by simpa using q)) hg (fun b _ => Clear.nil b) (by show X.A.units + 1 + _ < cLine; omega) (fun _ _ q => q) (fun h' t tk hk => ⟨_, _, rfl, fin h' t tk hk⟩) z2
  | @tup a xs ds rd n w =>
    cases ru
    obtain ⟨_, its, rv, o, ho, hc, k, hdt⟩ := (show ObjOk X.prog X.w H s.heap a (.tup xs) from rd.ok I.hok)
    have z2 : (tupleText (PyData.shownAll ds)).length ≤ sizeLine := by simpa only [PyData.shown] using hl2
    obtain ⟨bs, hb, hk⟩ := Vas.rpr I ds _ its (by simpa [plain] using hp) (by simpa [PyData.showable] using hsh) (fun t ht => Nat.le_trans (tupleText_mem_le ht) z2) w rv
    have na : a ∉ bs := not_mem_of_deeper r0 (by simp only [PyData.depth]; omega) hb
    refine call_repr_slot (by omega) ⟨_, ho, hc⟩ F.slot_tuple_repr ?_
    simp only [PyData.shown] at fin
    simp only [PyData.depth] at hu
    exact call_tuple_reprK ho hc hdt na hk hg (fun b _ => Clear.nil b) (by show X.A.units + 1 + _ < cLine; omega) (fun _ _ q => q) (fun h' t tk hk => ⟨_, _, rfl, fin h' t tk hk⟩) z2
  | non => cases hs
  | bl b => cases hs
  | int i => cases hs
  | str x => cases hs
  | dic _ _ => cases hs
  | exc _ _ => cases hs
  | exf _ _ _ _ _ => cases hs
theorem re_repr {c : Ctx} {a : Expr} {p pos : Pos} {ma : EM} (hm : c.mg ("repr" : Str) = none) (ha : RE c a ma) (hg : c.sc.names.lookup ("repr" : Str) = some .globalImplicit := by rfl)
    (he : ∀ env, starEach [a] env = (false, eval a env) :: starEach [] env := by intro _; rfl) : RE c (.Call (.Name ("repr" : Str) p) [a] [] pos) (eF (f1 dRepr) (aC ma aN)) := by
  obtain ⟨ta, pa, ha⟩ := ras_cons ha ras_nil he
  refine ⟨tCB rReprV ta, fun X h => pe_callB (call_reprV h.gd h.room) (by show X.env.scope.names.lookup _ = _; rw [h.sc]; exact hg) (by rw [h.mg]; exact hm) (by decide +kernel) (pa X h) (by decide) (by decide) (he _) (by rfl), fun W own σ H env d env' Q ft G e q => ?_⟩
  obtain ⟨xs, h1, h3⟩ := eF_some e
  refine ha W own σ H env xs env' _ ft G h1 fun vs H' x1 G' w => ?_
  cases w with
  | nil => cases h3
  | cons w1 w2 =>
    cases w2 with
    | cons _ _ => cases h3
    | nil =>
      simp only [f1, dRepr] at h3
      split at h3
      · rename_i hh
        cases h3
        obtain ⟨i1, i2, i3, i4, i5⟩ := hh
        exact ⟨_, _, _, rfl, w1, i1, i2, i3, i4, i5, q _ _ x1 G' (.str _)⟩
      · cases h3

/-! ### isinstance -/
/-- the type of data; cs: the classes of exceptions -/
def tyD (cs : List Addr) : D → Option Value
  | .none => some (.type "NoneType")
  | .bool _ => some (.type "bool")
  | .int _ => some (.type "int")
  | .str _ => some (.type "str")
  | .list _ => some (.type "list")
  | .tuple _ => some (.type "tuple")
  | .dict [] => some (.type "dict")
  | .dict [(.int (.ofNat C), .none)] => if cs.contains C then some (.ref C) else none
  | .dict [(.str _, _), (.int (.ofNat C), .none)] => if cs.contains C then some (.ref C) else none
  | .dict _ => none
section
variable {X : Cx} {pins : List (Addr × Obj)} {σ : L2.St} {H : Hp} {s : Shared} {Av : Addr → Prop} {cs : List Addr}
theorem kitV (hcs : ∀ C ∈ cs, ExcC X.K C) (I : L2.Inv X pins σ H s) {v : V} {u : Value} {d : D} {t : Value} (w : Va H Av v d) (r : RelV v u) (e : tyD cs d = some t) : ∃ P : Heap → Prop, PySem.W.KitX X.K u t P ∧ P s.heap ∧ u ≠ .builtin "__main__.__loader__#opaque" := by
  cases w with
  | non => cases e; exact kit_of I r (.base .non)
  | bl b => cases e; exact kit_of I r (.base (.bl b))
  | int i => cases e; exact kit_of I r (.base (.int i))
  | str x => cases e; exact kit_of I r (.base (.str x))
  | lst rd n w =>
    cases e
    rcases rd with rd | ⟨o, rd⟩
    · exact kit_of I r (.base (.lst rd))
    · exact kit_of I r (.base (.frz rd))
  | tup rd n w =>
    cases e
    rcases rd with rd | ⟨o, rd⟩
    · exact kit_of I r (.base (.tup rd))
    · exact kit_of I r (.fTuple rd)
  | dic rd n =>
    cases e
    rcases rd with rd | ⟨o, rd⟩
    · exact kit_of I r (.base (.dK rd))
    · exact kit_of I r (.fDict rd)
  | @exc a C e1 n =>
    have e : (if cs.contains C then some (Value.ref C) else none) = some t := e
    split at e
    · rename_i hc
      cases e
      cases r
      obtain ⟨ox, J⟩ := exq_inst0 I e1
      exact ⟨_, FwX.kitEx (hcs C (by simpa using hc)), J, fun z => nomatch z⟩
    · cases e
  | @exf a C dx f y dd e1 e2 n n2 w =>
    have e : (if cs.contains C then some (Value.ref C) else none) = some t := e
    split at e
    · rename_i hc
      cases e
      cases r
      obtain ⟨mA, hns, _⟩ := xd_at I.hok e2
      obtain ⟨o, ho, _⟩ := lookIn_ns hns
      obtain ⟨ox, J⟩ := exq_inst I e1 ho
      exact ⟨_, FwX.kitEx (hcs C (by simpa using hc)), J, fun z => nomatch z⟩
    · cases e
end
/-- the answer of isinstance for one class, for some -/
def isOf (K : PySem.W.Frag) (cs : List Addr) (u : Value) : D → Option Bool := fun d => (tyD cs d).bind fun t => PySem.W.kitOne K t u
def isAny (K : PySem.W.Frag) (cs : List Addr) (us : List Value) : D → Option Bool := fun d => (tyD cs d).bind fun t => PySem.W.kitAny K t us
def eIs (f : D → Option Bool) (ma : EM) : EM := fun e => match ma e with
  | some (d, e1) => match f d with
    | some b => some (.bool b, e1)
    | none => none
  | none => none
theorem eIs_some {f : D → Option Bool} {ma : EM} {env env' : Env} {d : D} (h : eIs f ma env = some (d, env')) : ∃ x b, ma env = some (x, env') ∧ f x = some b ∧ d = .bool b := by
  unfold eIs at h
  split at h
  · rename_i x e1 h1
    split at h
    · rename_i b h2
      cases h
      exact ⟨x, b, h1, h2, rfl⟩
    · cases h
  · cases h
def rIsV (K : PySem.W.Frag) (cs : List Addr) : List V → Hp → VK → Prop := fun xs H Q => ∃ (x c : V) (Av : Addr → Prop) (d : D) (t u : Value) (b : Bool), xs = [x, c] ∧ Va H Av x d ∧ tyD cs d = some t ∧ ClsV c u ∧ PySem.W.kitOne K t u = some b ∧ Q (.bl b) H
def rIsVs (K : PySem.W.Frag) (cs : List Addr) : List V → Hp → VK → Prop := fun xs H Q => ∃ (x : V) (tp : Addr) (ws : List V) (Av : Addr → Prop) (d : D) (t : Value) (us : List Value) (b : Bool), xs = [x, .ref tp] ∧ H tp = some (.tup ws) ∧ Paired ClsV ws us ∧ Va H Av x d ∧ tyD cs d = some t ∧ PySem.W.kitAny K t us = some b ∧ Q (.bl b) H
theorem call_isV {X : Cx} {cs : List Addr} (hcs : ∀ C ∈ cs, ExcC X.K C) : CallR X (.builtin "isinstance") (rIsV X.K cs) := by
  intro pins s σ H xs us Q I r h
  obtain ⟨x, c, Av, d, t, u, b, rfl, w, et, k, e, q⟩ := h
  obtain ⟨u1, u2, rfl, r1, r2⟩ := vals2 r
  have e2 := k.eq r2
  subst e2
  obtain ⟨P, Z, p, hx⟩ := kitV hcs I w r1 et
  exact PySem.W.kia_one Z I.kIn p e hx fun tk => ⟨.bl b, H, I.tok tk, rfl, q⟩
theorem call_isVs {X : Cx} {cs : List Addr} (hcs : ∀ C ∈ cs, ExcC X.K C) : CallR X (.builtin "isinstance") (rIsVs X.K cs) := by
  intro pins s σ H xs us Q I r h
  obtain ⟨x, tp, ws, Av, d, t, vs, b, rfl, hT, k, w, et, e, q⟩ := h
  obtain ⟨u1, u2, rfl, r1, r2⟩ := vals2 r
  cases (show u2 = Value.ref tp from r2)
  obtain ⟨P, Z, p, hx⟩ := kitV hcs I w r1 et
  obtain ⟨_, its, rv, o, h1, h2, n, h3⟩ := (show ObjOk X.prog X.w H s.heap tp (.tup ws) from I.hok tp _ hT)
  have e3 := ClsV.all k rv
  subst e3
  obtain ⟨oc, od, dt, sl⟩ := o
  simp only at h2 h3
  subst h2 h3
  exact PySem.W.kia_tup Z I.kIn p h1 e hx fun tk => ⟨.bl b, H, I.tok tk, rfl, q⟩
/-- an expression that names a class -/
def CN (c : Ctx) (e : Expr) (u : Value) : Prop := ∃ cv, ClsV cv u ∧ ∀ X, InC c X → PE X e (tC cv)
section
variable {c : Ctx} {a x : Expr} {p pos : Pos} {ma : EM} {cs : List Addr} {u : Value} {n : Str}
theorem cn_own {C : Addr} (hm : c.mg n = some (.ref C)) (hg : c.sc.names.lookup n = some .globalImplicit := by rfl) (hd : (n == ("__debug__" : Str)) = false := by decide) : CN c (.Name n p) (.ref C) :=
  ⟨.ref C, .own C, fun X h => pe_glob (by show X.env.scope.names.lookup _ = _; rw [h.sc]; exact hg) (by rw [h.mg]; exact hm) rfl hd⟩
theorem cn_ty {T : String} (hm : c.mg n = none) (hv : bootBuiltins n = some (.type T)) (hg : c.sc.names.lookup n = some .globalImplicit := by rfl) (hn : n ≠ "__name__" := by decide) (hd : (n == ("__debug__" : Str)) = false := by decide) : CN c (.Name n p) (.type T) :=
  ⟨.ty T, .ty T, fun X h => pe_bltn (by show X.env.scope.names.lookup _ = _; rw [h.sc]; exact hg) (by rw [h.mg]; exact hm) hv rfl hn hd⟩
theorem re_isI (hm : c.mg ("isinstance" : Str) = none) (hcs : ∀ C ∈ cs, ExcC c.K C) (ha : RE c a ma) (hx : CN c x u) (hg : c.sc.names.lookup ("isinstance" : Str) = some .globalImplicit := by rfl)
    (he : ∀ env, starEach [a, x] env = (false, eval a env) :: starEach [x] env := by intro _; rfl) (he2 : ∀ env, starEach [x] env = (false, eval x env) :: starEach [] env := by intro _; rfl) :
    RE c (.Call (.Name ("isinstance" : Str) p) [a, x] [] pos) (eIs (isOf c.K cs u) ma) := by
  obtain ⟨ta, pa, ha⟩ := ha
  obtain ⟨cv, hcv, px⟩ := hx
  refine ⟨tCB (rIsV c.K cs) (tCons ta (tCons (tC cv) tNil)), fun X h => pe_callB (by rw [← h.k]; exact call_isV (by rw [h.k]; exact hcs)) (by show X.env.scope.names.lookup _ = _; rw [h.sc]; exact hg) (by rw [h.mg]; exact hm) (by decide +kernel) (pa_cons (pa X h) (pa_cons (px X h) pa_nil (he2 _)) (he _)) (by decide) (by decide) (he _) (by rw [he2]; rfl), fun W own σ H env d env' Q ft G e q => ?_⟩
  obtain ⟨y, b, h1, h2, rfl⟩ := eIs_some e
  refine ha W own σ H env y env' _ ft G h1 fun v H' x1 G' w => ?_
  obtain ⟨t, ht, hk⟩ := Option.bind_eq_some_iff.mp h2
  exact ⟨v, cv, _, y, t, u, b, rfl, w, ht, hcv, hk, q _ _ x1 G' (.bl b)⟩
theorem re_isT {es : List Expr} {us : List Value} {xk : Nat} {p2 : Pos} {ws : List V} (hm : c.mg ("isinstance" : Str) = none) (hcs : ∀ C ∈ cs, ExcC c.K C) (ha : RE c a ma) (hl : ws.length ≤ 16777216) (hw : Paired ClsV ws us)
    (hx : ∀ X, InC c X → PA X es (fun _ H Q => Q ws H)) (hg : c.sc.names.lookup ("isinstance" : Str) = some .globalImplicit := by rfl)
    (he : ∀ env, starEach [a, .Tuple es xk p2] env = (false, eval a env) :: starEach [.Tuple es xk p2] env := by intro _; rfl) :
    RE c (.Call (.Name ("isinstance" : Str) p) [a, .Tuple es xk p2] [] pos) (eIs (isAny c.K cs us) ma) := by
  obtain ⟨ta, pa, ha⟩ := ha
  refine ⟨tCB (rIsVs c.K cs) (tCons ta (tCons (tTup (fun _ H Q => Q ws H)) tNil)), fun X h => pe_callB (by rw [← h.k]; exact call_isVs (by rw [h.k]; exact hcs)) (by show X.env.scope.names.lookup _ = _; rw [h.sc]; exact hg) (by rw [h.mg]; exact hm) (by decide +kernel) (pa_cons (pa X h) (pa_cons (pe_tup (hx X h)) pa_nil) (he _)) (by decide) (by decide) (he _) (by rfl), fun W own σ H env d env' Q ft G e q => ?_⟩
  obtain ⟨y, b, h1, h2, rfl⟩ := eIs_some e
  refine ha W own σ H env y env' _ ft G h1 fun v H' x1 G' w => ?_
  obtain ⟨t, ht, hk⟩ := Option.bind_eq_some_iff.mp h2
  refine ⟨line_le hl, fun tp htp => ?_⟩
  have s := same_upd (o := .tup ws) htp
  exact ⟨v, tp, ws, Avd W own, y, t, us, b, rfl, upd_same, hw, w.same s, ht, hk, q _ _ (x1.trans (Ex.same s)) (G'.same s) (.bl b)⟩
end
end Fw
set_option Elab.async false
set_option linter.all false
set_option maxRecDepth 100000
set_option maxHeartbeats 2000000
/-! Fw13: own exceptions as data: made by position and by name, asked for their field. -/
namespace Fw
open PySem PySem.Spec PyProof.Rows L2

/-! ### __init__: self.f = f -/
def spI (C : Addr) (f : Str) : Sp := fun vs H Q _ => ∃ (a : Addr) (v : V), vs = [.ref a, v] ∧ H a = some (exo a C none) ∧ ∀ dx, H dx = none → dx ≠ a → Q .non (upd (upd H dx (exd dx [(f, v)])) a (exo a C (some dx)))
theorem init_ok {P : Program} {w : World} {K : PySem.W.Frag} {mg : Str → Option Value} {base : Heap} {qual : Str} {st : Stmt} {C fI : Addr} {fd : FuncData} {f : Str} {p1 p2 p3 p4 : Pos} (T : OexC K C) (hno : PySem.W.findIn K (.ref C) f = some none)
    (F : L2.Fun K "__init__" qual st fI fd) (S : FnScope ["self", f] ["self", f] (defScope st)) (hb : defBody st = [.Assign [.Attribute (.Name "self" p1) f p2] (.Name f p3) p4]) (hv1 : (defScope st).names.lookup ("self" : Str) = some .local) (hv2 : (defScope st).names.lookup f = some .local)
    (hd : (f == ("__debug__" : Str)) = false) (hcd : (f == ("__classdict__" : Str)) = false) (hsw : ∀ env, swapsWith (.Name f p3) (some (.Attribute (.Name "self" p1) f p2)) p4.line env = pure false) : FnOk P w K mg base CX0 1 fI fd ["self", f] (spI C f) := by
  refine F.ok S (fun vs H Q E h => ?_) (fun cdv A outer s H vs Q E hr h => ⟨tOst K f (tVar 0) (tVar 1), ?_, ?_⟩)
  · obtain ⟨a, v, rfl, _⟩ := h
    rfl
  · rw [hb]
    exact pss_one (ps_ost (pe_var rfl (.inl hv1) (by decide) (by decide)) (pe_var rfl (.inl hv2) hd hcd) (hsw _))
  · obtain ⟨a, v, rfl, e, q⟩ := h
    exact ⟨v, rfl, .ref a, rfl, a, C, rfl, T, hno, .inl ⟨e, fun dx hn hne => q dx hn hne⟩⟩

/-! ### made -/
/-- the class x, at C, whose objects have the field f -/
def MkE (c : Ctx) (x : Str) (C : Addr) (f : Str) : Prop := ∃ (fI : Addr) (fd : FuncData) (j : Nat), OexC c.K C ∧ PySem.W.findIn c.K (.ref C) "__init__" = some (some (.ref fI)) ∧ PySem.W.typeIn c.K (.ref fI) = some (.type "function") ∧
  FnOk c.P c.w c.K c.mg c.base CX0 j fI fd ["self", f] (spI C f) ∧ j + 1 ≤ c.k ∧ c.mg x = some (.ref C) ∧ Binds c.K fd ["self", f] [] ∧ FwX.KBo c.K fd ["self", f] [f]
def dX (C : Addr) (f : Str) (d : D) : D := .dict [(.str f, d), (.int C, .none)]
def dX0 (C : Addr) : D := .dict [(.int C, .none)]
def eMk (C : Addr) (f : Str) (ma : EM) : EM := fun e => match ma e with
  | some (d, e1) => some (dX C f d, e1)
  | none => none
def tLess (te : TE) : TE := fun σ H Q => te σ H fun v H2 => ∃ (a C dx : Addr) (f : Str) (y : V), v = .ref a ∧ H2 a = some (exo a C (some dx)) ∧ H2 dx = some (exd dx [(f, y)]) ∧ Q (.ref a) (upd (upd H2 dx (.xd [(f, y)])) a (exq a C (some dx)))
section
variable {c : Ctx} {x f : Str} {C : Addr} {a : Expr} {p pos kp : Pos} {ma : EM}
theorem made_exc {W : Wd} {own : List (Nat × Addr)} {σ : L2.St} {H H1 : Hp} {env : Env} {v : V} {d : D} {Q : VK} (x1 : Ex W H H1) (G : Good W own σ H1 env) (w : Va H1 (Avd W own) v d) (q : ∀ v H', Ex W H H' → Good W own σ H' env → Va H' (Avd W own) v (dX C f d) → Q v H') :
    [v].length ≤ 1000 ∧ ∀ a, H1 a = none → spI C f (.ref a :: [v]) (upd H1 a (exo a C none)) (fun u H2 => u = .non ∧ ∃ (b C' dx : Addr) (g : Str) (y : V), V.ref a = .ref b ∧ H2 b = some (exo b C' (some dx)) ∧ H2 dx = some (exd dx [(g, y)]) ∧ Q (.ref b) (upd (upd H2 dx (.xd [(g, y)])) b (exq b C' (some dx)))) (fun _ _ _ => False) := by
  refine ⟨by simp, fun a hn => ⟨a, v, rfl, upd_same, fun dx hd hne => ⟨rfl, a, C, dx, f, v, rfl, upd_same, by rw [upd_ne hne, upd_same], ?_⟩⟩⟩
  have hd1 : H1 dx = none := by rw [upd_ne hne] at hd; exact hd
  have s : Same H1 (upd (upd (upd (upd (upd H1 a (exo a C none)) dx (exd dx [(f, v)])) a (exo a C (some dx))) dx (.xd [(f, v)])) a (exq a C (some dx))) := fun b o e => by
    have na : b ≠ a := ne_of_none e hn
    have nd : b ≠ dx := ne_of_none e hd1
    rw [upd_ne na, upd_ne nd, upd_ne na, upd_ne nd, upd_ne na]
    exact e
  refine q _ _ (x1.trans (Ex.same s)) (G.same s) (.exf upd_same (by rw [upd_ne hne, upd_same]) (G.trk.new hn) (G.trk.new hd1) (w.same s))
theorem eMk_some {env env' : Env} {d : D} (h : eMk C f ma env = some (d, env')) : ∃ y, ma env = some (y, env') ∧ d = dX C f y := by
  unfold eMk at h
  split at h
  · rename_i y e1 h1
    cases h
    exact ⟨y, h1, rfl⟩
  · cases h
theorem re_mkE (M : MkE c x C f) (ha : RE c a ma) (hg : c.sc.names.lookup x = some .globalImplicit := by rfl) (hdb : (x == ("__debug__" : Str)) = false := by decide)
    (he : ∀ env, starEach [a] env = (false, eval a env) :: starEach [] env := by intro _; rfl) : RE c (.Call (.Name x p) [a] [] pos) (eMk C f ma) := by
  obtain ⟨ta, pa, ha⟩ := ha
  refine ⟨tLess (tMkE C (spI C f) (tCons ta tNil)), fun X h => ?_, fun W own σ H env d env' Q ft G e q => ?_⟩
  · obtain ⟨fI, fd, j, T, iC, tI, F1, hj, hm, hb, _⟩ := M
    exact pe_less (pe_mkE (fI := fI) (fd := fd) (k := j) (ps := ["self", f]) (by rw [h.k]; exact T) (by rw [h.k]; exact iC) (by rw [h.k]; exact tI) (by rw [h.p, h.w, h.k, h.mg, h.base]; exact F1) (h.room.mono hj) (by rw [h.k]; exact hb) (by show X.env.scope.names.lookup _ = _; rw [h.sc]; exact hg) (by rw [h.mg]; exact hm) (pa_cons (pa X h) pa_nil (he _)) hdb (he _) (by rfl))
  · obtain ⟨y, h1, rfl⟩ := eMk_some e
    exact ha W own σ H env y env' _ ft G h1 fun v H' x1 G' w => made_exc x1 G' w q
theorem re_mkK (M : MkE c x C f) (ha : RE c a ma) (hg : c.sc.names.lookup x = some .globalImplicit := by rfl) (hdb : (x == ("__debug__" : Str)) = false := by decide)
    (hall : ∀ env, (backToKw pos (keywordEach [⟨some f, a, kp⟩] env)).all (·.1.isSome) = true := by intro _; rfl) (hks : ∀ env, (backToKw pos (keywordEach [⟨some f, a, kp⟩] env)).filterMap (·.1) = [f] := by intro _; rfl)
    (hpl : ∀ env, ((backTo pos (starEach [] env)).any (·.1) || (backToKw pos (keywordEach [⟨some f, a, kp⟩] env)).any (·.1.isNone)) = false := by intro _; rfl) : RE c (.Call (.Name x p) [] [⟨some f, a, kp⟩] pos) (eMk C f ma) := by
  obtain ⟨ta, pa, ha⟩ := ha
  refine ⟨tLess (tMkE C (spI C f) (tCons ta tNil)), fun X h => ?_, fun W own σ H env d env' Q ft G e q => ?_⟩
  · obtain ⟨fI, fd, j, T, iC, tI, F1, hj, hm, _, hb⟩ := M
    exact pe_less (pe_mkK (fI := fI) (fd := fd) (k := j) (ps := ["self", f]) (ks := [f]) (by rw [h.k]; exact T) (by rw [h.k]; exact iC) (by rw [h.k]; exact tI) (by rw [h.p, h.w, h.k, h.mg, h.base]; exact F1) (h.room.mono hj) (by rw [h.k]; exact hb) (by show X.env.scope.names.lookup _ = _; rw [h.sc]; exact hg) (by rw [h.mg]; exact hm) (pk_cons (pa X h) pk_nil) (hall _) (hks _) hdb (hpl _))
  · obtain ⟨y, h1, rfl⟩ := eMk_some e
    exact ha W own σ H env y env' _ ft G h1 fun v H' x1 G' w => made_exc x1 G' w q
def Mk0 (c : Ctx) (x : Str) (C : Addr) : Prop := ∃ bmB, PySem.W.excIn c.K C bmB "ValueError.__new__" = true ∧ ExcBaseFacts "ValueError" "ValueError.__new__" "ValueError.__init__" bmB ∧ PySem.W.keepIn c.K (.ref C) = true ∧ c.mg x = some (.ref C)
theorem re_mk0 (M : Mk0 c x C) (hg : c.sc.names.lookup x = some .globalImplicit := by rfl) (hdb : (x == ("__debug__" : Str)) = false := by decide) : RE c (.Call (.Name x p) [] [] pos) (eC (dX0 C)) := by
  refine ⟨fun _ H Q => ∀ a, H a = none → ∃ (b C' : Addr), V.ref a = .ref b ∧ (upd H a (exo a C none)) b = some (exo b C' none) ∧ Q (.ref b) (upd (upd H a (exo a C none)) b (exq b C' none)), fun X h => ?_, fun W own σ H env d env' Q ft G e q => fun a hn => ?_⟩
  · obtain ⟨bmB, q, F, kC, hm⟩ := M
    exact pe_less0 (pe_mk0 F (by rw [h.k]; exact q) (by rw [h.k]; exact kC) (by show X.env.scope.names.lookup _ = _; rw [h.sc]; exact hg) (by rw [h.mg]; exact hm) hdb)
  · cases e
    have s : Same H (upd (upd H a (exo a C none)) a (exq a C none)) := fun b o e => by
      have na : b ≠ a := ne_of_none e hn
      rw [upd_ne na, upd_ne na]
      exact e
    exact ⟨a, C, rfl, upd_same, q _ _ (Ex.same s) (G.same s) (.exc upd_same (G.trk.new hn))⟩
/-! ### asked -/
def fldD (cs : List Addr) (f : Str) : D → Option D
  | .dict [(.str g, v), (.int (.ofNat C), .none)] => if g = f ∧ cs.contains C = true then some v else none
  | _ => none
def eAt (cs : List Addr) (f : Str) (ma : EM) : EM := fun e => match ma e with
  | some (d, e1) => match fldD cs f d with
    | some v => some (v, e1)
    | none => none
  | none => none
theorem re_fld {cs : List Addr} (hcs : ∀ C ∈ cs, FldK c.K C f) (ha : RE c a ma) (hb : ∀ env, attributeBase a f env (eval a env) = eval a env := by intro _; rfl) : RE c (.Attribute a f pos) (eAt cs f ma) := by
  obtain ⟨ta, pa, ha⟩ := ha
  refine ⟨tOxf c.K f ta, fun X h => by rw [← h.k]; exact pe_oxf (pa X h) (hb _), fun W own σ H env d env' Q ft G e q => ?_⟩
  unfold eAt at e
  split at e
  · rename_i x e1 h1
    split at e
    · rename_i v h2
      cases e
      refine ha W own σ H env x _ _ ft G h1 fun z H' x1 G' w => ?_
      unfold fldD at h2
      split at h2
      · rename_i g y C
        split at h2
        · rename_i hh
          obtain ⟨rfl, hc⟩ := hh
          cases h2
          cases w with
          | @exf b _ dx _ u _ e1 e2 n n2 w =>
            exact ⟨b, C, dx, [(g, u)], u, rfl, hcs C (by simpa using hc), e1, e2, by simp [List.lookup], q _ _ x1 G' w⟩
        · cases h2
      · cases h2
    · cases e
  · cases e
end
end Fw
set_option Elab.async false
set_option linter.all false
set_option maxRecDepth 100000
set_option maxHeartbeats 4000000
/-! FwZ: zip of three lists. -/
namespace FwZ
open PySem
open PySem.Sem (wp)
abbrev Tri (h : Heap) (T : Addr) (a b c : Value) : Prop := h.get? T = some { cls := .type "tuple", data := .seq #[a, b, c] }
/-- what is apart from what -/
structure Ap (z TI TO i j k l m n : Addr) : Prop where
  Iz : TI ≠ z
  Oz : TO ≠ z
  iz : i ≠ z
  jz : j ≠ z
  kz : k ≠ z
  IO : TI ≠ TO
  Ii : TI ≠ i
  Ij : TI ≠ j
  Ik : TI ≠ k
  Oi : TO ≠ i
  Oj : TO ≠ j
  Ok : TO ≠ k
  ij : i ≠ j
  ik : i ≠ k
  jk : j ≠ k
  ls : ∀ x, x = l ∨ x = m ∨ x = n → x ≠ z ∧ x ≠ TO ∧ x ≠ i ∧ x ≠ j ∧ x ≠ k
section
variable {pr : Program} {w : World} {Am : Around} {Ex : Value → Shared → Prop} {s : Shared}
theorem put3 {T : Addr} {a b c x : Value} {e : Nat} {Q : Unit → Shared → Prop} (at1 : Tri s.heap T a b c)
    (fin : ∀ h', h'.get? T = some { cls := .type "tuple", data := .seq ((#[a, b, c] : Array Value).setIfInBounds e x) } → Heap.SameBut T s.heap h' → Q () { s with heap := h' }) :
    wpAny (model pr w) Am (updateSeq T (·.setIfInBounds e x)) Q Ex s := by
  refine wpAny_updateSeq at1 rfl (fin _ ?_ (Heap.SameBut.update ..))
  rw [Heap.get?_update_self _ at1 rfl]
  simp [Obj.mapSeq]
variable {z TI TO i j k l m n : Addr} {t : Nat} {xs ys ws : Array Value} {x y u a b c : Value}
/-- the first turn of the three -/
theorem draw1 {Q : Option Value → Shared → Prop} (ap : Ap z TI TO i j k l m n) (q : s.heap.IsListIter i l t) (ql : s.heap.IsList l xs) (ex : xs[t]? = some x)
    (fin : ∀ h', h'.IsListIter i l (t + 1) → Heap.SameBut i s.heap h' → Q (some x) { s with heap := h' }) :
    wpAny (model pr w) Am (Builtin.SmallTypes.nextOf (.ref i) >>= fun v => pure (some v)) Q Ex s :=
  wpAny_bind (wpAny_nextOf_list_item q ql ex fun h' q' sb => wpAny_pure (fin h' q' sb))
theorem item3 {Q : Value → Shared → Prop} (ap : Ap z TI TO i j k l m n) (az : IsZip s.heap z TI TO .none) (aI : Tri s.heap TI (.ref i) (.ref j) (.ref k)) (aO : Tri s.heap TO a b c)
    (qi : s.heap.IsListIter i l t) (qj : s.heap.IsListIter j m t) (qk : s.heap.IsListIter k n t) (el : s.heap.IsList l xs) (em : s.heap.IsList m ys) (en : s.heap.IsList n ws) (ex : xs[t]? = some x) (ey : ys[t]? = some y) (eu : ws[t]? = some u)
    (fin : ∀ h', IsZip h' z TI TO (rawInt s.heap.objs.size) → Tri h' TO x y u → h'.IsListIter i l (t + 1) → h'.IsListIter j m (t + 1) → h'.IsListIter k n (t + 1) → Tri h' s.heap.objs.size x y u → h'.objs.size = s.heap.objs.size + 1 →
      (∀ e o, e ≠ z → e ≠ TO → e ≠ i → e ≠ j → e ≠ k → s.heap.get? e = some o → h'.get? e = some o) → Q (.ref s.heap.objs.size) { s with heap := h' }) :
    wpAny (model pr w) Am (Builtin.«zip.__next__» ⟨[.ref z], []⟩) (fun fn s' => ∃ v, fn = .done (.ret v) ∧ Q v s') Ex s := by
  obtain ⟨lz, lO, li, lj, lk⟩ := ap.ls l (.inl rfl)
  obtain ⟨mz, mO, mi, mj, mk⟩ := ap.ls m (.inr (.inl rfl))
  obtain ⟨nz, nO, ni, nj, nk⟩ := ap.ls n (.inr (.inr rfl))
  show wpAny _ _ (field (.ref z) 2 >>= _) _ _ _
  refine wpAny_bind (wpAny_field az rfl (x := .bool false) rfl ?_)
  show wpAny _ _ (field (.ref z) 3 >>= _) _ _ _
  refine wpAny_bind (wpAny_field az rfl (x := .ref TI) rfl ?_)
  refine wpAny_bind (wpAny_seqItems aI rfl ?_); show wpAny _ _ (Builtin.SmallTypes.ownedTupleIsFree (.ref z) >>= _) _ _ _
  refine wpAny_bind ?_
  unfold Builtin.SmallTypes.ownedTupleIsFree; refine wpAny_bind (wpAny_field az rfl (x := .none) rfl (wpAny_pure ?_))
  simp only [if_true]
  refine wpAny_bind (wpAny_rule ?_)
  refine wpAny_bind (wpAny_field az rfl (x := .ref TO) rfl ?_)
  refine wpAny_bind (wpAny_setField_rec az (by simp) fun g1 az1 s1 => ?_)
  replace az1 : IsZip g1 z TI TO .ellipsis := az1
  refine wpAny_bind ?_
  simp only [List.zipIdx_cons, List.zipIdx_nil, List.forIn_cons, List.forIn_nil]
  -- the first
  refine wpAny_bind (wpAny_bind (wpAny_onRaise ?_)); show wpAny _ _ (Builtin.SmallTypes.nextOf (.ref i) >>= _) _ _ _
  refine wpAny_bind (wpAny_nextOf_list_item (qi.extBut s1.extBut ap.iz) (el.extBut s1.extBut lz) ex fun g2 qi2 s2 => wpAny_pure ?_)
  have aO2 : Tri g2 TO a b c := s2.extBut _ _ ap.Oi (s1.extBut _ _ ap.Oz aO)
  refine wpAny_bind (wpAny_seqItems aO2 rfl (wpAny_bind (put3 aO2 fun g3 aO3 s3 => ?_)))
  replace aO3 : Tri g3 TO x b c := aO3
  refine wpAny_bind (wpAny_letGo (wpAny_pure ?_))
  -- the second
  refine wpAny_bind (wpAny_bind (wpAny_onRaise ?_)); show wpAny _ _ (Builtin.SmallTypes.nextOf (.ref j) >>= _) _ _ _
  refine wpAny_bind (wpAny_nextOf_list_item (((qj.extBut s1.extBut ap.jz).extBut s2.extBut ap.ij.symm).extBut s3.extBut ap.Oj.symm) (((em.extBut s1.extBut mz).extBut s2.extBut mi).extBut s3.extBut mO) ey fun g4 qj4 s4 => wpAny_pure ?_)
  have aO4 : Tri g4 TO x b c := s4.extBut _ _ ap.Oj aO3
  refine wpAny_bind (wpAny_seqItems aO4 rfl (wpAny_bind (put3 aO4 fun g5 aO5 s5 => ?_)))
  replace aO5 : Tri g5 TO x y c := aO5
  refine wpAny_bind (wpAny_letGo (wpAny_pure ?_))
  -- the third
  refine wpAny_bind (wpAny_bind (wpAny_onRaise ?_)); show wpAny _ _ (Builtin.SmallTypes.nextOf (.ref k) >>= _) _ _ _
  refine wpAny_bind (wpAny_nextOf_list_item (((((qk.extBut s1.extBut ap.kz).extBut s2.extBut ap.ik.symm).extBut s3.extBut ap.Ok.symm).extBut s4.extBut ap.jk.symm).extBut s5.extBut ap.Ok.symm)
    (((((en.extBut s1.extBut nz).extBut s2.extBut ni).extBut s3.extBut nO).extBut s4.extBut nj).extBut s5.extBut nO) eu fun g6 qk6 s6 => wpAny_pure ?_)
  have aO6 : Tri g6 TO x y c := s6.extBut _ _ ap.Ok aO5
  refine wpAny_bind (wpAny_seqItems aO6 rfl (wpAny_bind (put3 aO6 fun g7 aO7 s7 => ?_)))
  replace aO7 : Tri g7 TO x y u := aO7
  refine wpAny_bind (wpAny_letGo (wpAny_pure (wpAny_pure ?_)))
  -- the end
  refine wpAny_bind (wpAny_seqItems aO7 rfl (wpAny_bind (wpAny_newTuple ?_)))
  have sz : g7.objs.size = s.heap.objs.size := by rw [s7.1, s6.1, s5.1, s4.1, s3.1, s2.1, s1.1]
  have az7 : IsZip g7 z TI TO .ellipsis := s7.extBut _ _ ap.Oz.symm (s6.extBut _ _ ap.kz.symm (s5.extBut _ _ ap.Oz.symm (s4.extBut _ _ ap.jz.symm (s3.extBut _ _ ap.Oz.symm (s2.extBut _ _ ap.iz.symm az1)))))
  have kp : ∀ e o, e ≠ z → e ≠ TO → e ≠ i → e ≠ j → e ≠ k → s.heap.get? e = some o → g7.get? e = some o := fun e o e1 e2 e3 e4 e5 q =>
    s7.extBut _ _ e2 (s6.extBut _ _ e5 (s5.extBut _ _ e2 (s4.extBut _ _ e4 (s3.extBut _ _ e2 (s2.extBut _ _ e3 (s1.extBut _ _ e1 q))))))
  have qi7 : g7.IsListIter i l (t + 1) := ((((qi2.extBut s3.extBut ap.Oi.symm).extBut s4.extBut ap.ij).extBut s5.extBut ap.Oi.symm).extBut s6.extBut ap.ik).extBut s7.extBut ap.Oi.symm
  have qj7 : g7.IsListIter j m (t + 1) := ((qj4.extBut s5.extBut ap.Oj.symm).extBut s6.extBut ap.jk).extBut s7.extBut ap.Oj.symm
  have qk7 : g7.IsListIter k n (t + 1) := qk6.extBut s7.extBut ap.Ok.symm
  have zlt : z < g7.objs.size := Heap.lt_size az7
  show wpAny _ _ (Builtin.SmallTypes.ownedTupleHandOut (.ref z) (.ref g7.objs.size) >>= _) _ _ _
  refine wpAny_bind ?_
  unfold Builtin.SmallTypes.ownedTupleHandOut
  have az8 : IsZip (g7.push { cls := .type "tuple", data := .seq #[x, y, u] }) z TI TO .ellipsis := Heap.get?_push_of_some _ az7
  refine wpAny_bind (wpAny_setField_rec az8 (by simp) fun g9 az9 s9 => ?_)
  replace az9 : IsZip g9 z TI TO (rawInt g7.objs.size) := az9
  refine wpAny_setField_rec az9 (by simp) fun g8 azz s8 => ?_
  replace azz : IsZip g8 z TI TO (rawInt g7.objs.size) := azz
  have up : ∀ e o, e ≠ z → g7.get? e = some o → g8.get? e = some o := fun e o e1 q => s8.extBut _ _ e1 (s9.extBut _ _ e1 (Heap.get?_push_of_some _ q))
  have aT : Tri g8 g7.objs.size x y u := s8.extBut _ _ (Nat.ne_of_gt zlt) (s9.extBut _ _ (Nat.ne_of_gt zlt) (Heap.get?_push_size _ rfl))
  have sz8 : g8.objs.size = g7.objs.size + 1 := by rw [s8.1, s9.1, Heap.size_push]
  rw [sz] at azz aT sz8
  refine wpAny_pure ⟨_, rfl, ?_⟩
  show Q (.ref g7.objs.size) _
  rw [sz]
  exact fin g8 azz (up _ _ ap.Oz aO7) (qi7.at fun o e => up _ o ap.iz e) (qj7.at fun o e => up _ o ap.jz e) (qk7.at fun o e => up _ o ap.kz e) aT sz8 fun e o e1 e2 e3 e4 e5 q => up e o e1 (kp e o e1 e2 e3 e4 e5 q)
/-- the end: the three lists are equally long -/
theorem end3 {Q : Fin → Shared → Prop} (hh : Am.handled = none) (ap : Ap z TI TO i j k l m n) (az : IsZip s.heap z TI TO .none) (aI : Tri s.heap TI (.ref i) (.ref j) (.ref k))
    (qi : s.heap.IsListIter i l t) (el : s.heap.IsList l xs) (ex : xs[t]? = none)
    (fin : ∀ h' e, (∀ c o, c ≠ z → c ≠ TO → c ≠ i → c ≠ j → c ≠ k → s.heap.get? c = some o → h'.get? c = some o) → (∃ o, h'.get? e = some o ∧ o.cls = .type "StopIteration") → Ex (.ref e) { s with heap := h' }) :
    wpAny (model pr w) Am (Builtin.«zip.__next__» ⟨[.ref z], []⟩) Q Ex s := by
  obtain ⟨lz, lO, li, lj, lk⟩ := ap.ls l (.inl rfl)
  show wpAny _ _ (field (.ref z) 2 >>= _) _ _ _
  refine wpAny_bind (wpAny_field az rfl (x := .bool false) rfl ?_)
  show wpAny _ _ (field (.ref z) 3 >>= _) _ _ _
  refine wpAny_bind (wpAny_field az rfl (x := .ref TI) rfl ?_)
  refine wpAny_bind (wpAny_seqItems aI rfl ?_); show wpAny _ _ (Builtin.SmallTypes.ownedTupleIsFree (.ref z) >>= _) _ _ _
  refine wpAny_bind ?_
  unfold Builtin.SmallTypes.ownedTupleIsFree; refine wpAny_bind (wpAny_field az rfl (x := .none) rfl (wpAny_pure ?_))
  simp only [if_true]
  refine wpAny_bind (wpAny_rule ?_)
  refine wpAny_bind (wpAny_field az rfl (x := .ref TO) rfl ?_)
  refine wpAny_bind (wpAny_setField_rec az (by simp) fun g1 az1 s1 => ?_)
  replace az1 : IsZip g1 z TI TO .ellipsis := az1
  refine wpAny_bind ?_
  simp only [List.zipIdx_cons, List.zipIdx_nil, List.forIn_cons, List.forIn_nil]
  refine wpAny_bind (wpAny_bind (wpAny_onRaise ?_)); show wpAny _ _ (Builtin.SmallTypes.nextOf (.ref i) >>= _) _ _ _
  refine wpAny_bind (wpAny_nextOf_list_end hh (qi.extBut s1.extBut ap.iz) (el.extBut s1.extBut lz) ex fun g2 e s2 he => ?_)
  obtain ⟨oe, hoe, hce⟩ := he
  have az2 : IsZip g2 z TI TO .ellipsis := s2 _ _ ap.iz.symm az1
  have ez : e ≠ z := fun q => by subst q; rw [az2] at hoe; cases hoe; simp at hce
  refine wpAny_setField_rec az2 (by simp) fun g3 _ s3 => fin g3 e (fun c o c1 _ c3 _ _ q => s3.extBut _ _ c1 (s2 _ _ c3 (s1.extBut _ _ c1 q))) ⟨oe, s3.extBut _ _ ez hoe, hce⟩
theorem next3 {Q : Option Value → Shared → Prop} (ap : Ap z TI TO i j k l m n) (az : IsZip s.heap z TI TO .none) (aI : Tri s.heap TI (.ref i) (.ref j) (.ref k)) (aO : Tri s.heap TO a b c)
    (qi : s.heap.IsListIter i l t) (qj : s.heap.IsListIter j m t) (qk : s.heap.IsListIter k n t) (el : s.heap.IsList l xs) (em : s.heap.IsList m ys) (en : s.heap.IsList n ws) (ex : xs[t]? = some x) (ey : ys[t]? = some y) (eu : ws[t]? = some u)
    (fin : ∀ h', IsZip h' z TI TO (rawInt s.heap.objs.size) → Tri h' TO x y u → h'.IsListIter i l (t + 1) → h'.IsListIter j m (t + 1) → h'.IsListIter k n (t + 1) → Tri h' s.heap.objs.size x y u → h'.objs.size = s.heap.objs.size + 1 →
      (∀ e o, e ≠ z → e ≠ TO → e ≠ i → e ≠ j → e ≠ k → s.heap.get? e = some o → h'.get? e = some o) → Q (some (.ref s.heap.objs.size)) { s with heap := h' }) :
    wpAny (model pr w) Am (pyNext (.ref z)) Q Ex s := by
  have ty : s.TypeIs (.ref z) "zip" := ⟨_, az, rfl⟩
  unfold pyNext
  exact wpAny_bind (wpAny_attempt (wpAny_callSpecial?_slot (name := Str.ofString "__next__") ty F.slot_zip_next (wpAny_call_entry F.slot_zip_next ty F.entry_zip_next
    (item3 ap az aI aO qi qj qk el em en ex ey eu fun h' f1 f2 f3 f4 f5 f6 f7 f8 => wpAny_pure (fin h' f1 f2 f3 f4 f5 f6 f7 f8)) (F.args_zip_next_1 _))))
theorem stop3 {Q : Option Value → Shared → Prop} (hh : Am.handled = none) (ap : Ap z TI TO i j k l m n) (az : IsZip s.heap z TI TO .none) (aI : Tri s.heap TI (.ref i) (.ref j) (.ref k))
    (qi : s.heap.IsListIter i l t) (el : s.heap.IsList l xs) (ex : xs[t]? = none)
    (fin : ∀ h', (∀ c o, c ≠ z → c ≠ TO → c ≠ i → c ≠ j → c ≠ k → s.heap.get? c = some o → h'.get? c = some o) → Q none { s with heap := h' }) : wpAny (model pr w) Am (pyNext (.ref z)) Q Ex s := by
  have ty : s.TypeIs (.ref z) "zip" := ⟨_, az, rfl⟩
  unfold pyNext
  refine wpAny_bind (wpAny_attempt (wpAny_callSpecial?_slot (name := Str.ofString "__next__") ty F.slot_zip_next (wpAny_call_entry F.slot_zip_next ty F.entry_zip_next
    (end3 hh ap az aI qi el ex fun h' e hk he => ?_) (F.args_zip_next_1 _))))
  obtain ⟨o, ho, hc⟩ := he
  refine wpAny_bind (wpAny_isInstance (T := "StopIteration") (b := true) ⟨o, ho, hc⟩ isSubtype_stop (wpAny_pure (fin _ hk)))
end
abbrev H1 (h : Heap) (l : Addr) : Heap := h.push { cls := .type "list_iterator", data := .fields #[.ref l, .int 0 0] }
abbrev H4 (h : Heap) (l m n : Addr) : Heap := (H1 (H1 (H1 h l) m) n).push { cls := .type "tuple", data := .seq #[.ref h.objs.size, .ref (H1 h l).objs.size, .ref (H1 (H1 h l) m).objs.size] }
abbrev H5 (h : Heap) (l m n : Addr) : Heap := (H4 h l m n).push { cls := .type "tuple", data := .seq #[.none, .none, .none] }
abbrev H6 (h : Heap) (l m n : Addr) : Heap := (H5 h l m n).push { cls := .type "zip", data := .fields #[.none, .bool false, .bool false, .ref (H1 (H1 (H1 h l) m) n).objs.size, .ref (H4 h l m n).objs.size] }
theorem args4 (a b c d : Value) : argsOk "object.__init__" ⟨[a, b, c, d], []⟩ := by
  unfold argsOk; rw [signature?_of (id := "object.__init__") (n := ['_', '_', 't', 'i', 'n', 'i', '_', '_']) (o := ['t', 'c', 'e', 'j', 'b', 'o']) (by kernel_rfl) F.owner_object]; kernel_rfl
theorem meets3 (l m n : Addr) (xs ys ws : Array Value) :
    Meets (Builtin.«zip.__new__» ⟨[.type "zip", .ref l, .ref m, .ref n], []⟩) (fun _ R s => s.heap.IsList l xs ∧ s.heap.IsList m ys ∧ s.heap.IsList n ws ∧
      R (.ok (.ret (.ref (H5 s.heap l m n).objs.size))) { s with heap := H6 s.heap l m n }) :=
  .of_wp fun pr w A R s h => by
    obtain ⟨hp, g, d, tk, os⟩ := s; obtain ⟨el, em, en, h⟩ := h
    have sub := sub_zip
    have e1 : Heap.IsList (Shared.heap ⟨hp, g, d, tk, os⟩) l xs := el
    have e2 : Heap.IsList (Shared.heap ⟨H1 hp l, g, d, tk, os⟩) m ys := Heap.IsList.push em _
    have e3 : Heap.IsList (Shared.heap ⟨H1 (H1 hp l) m, g, d, tk, os⟩) n ws := Heap.IsList.push (Heap.IsList.push en _) _
    wp_walk using wpAny_pyIter_list e1, wpAny_pyIter_list e2, wpAny_pyIter_list e3
    exact ⟨_, rfl, h⟩
theorem tcall3 (a b c : Value) : checkTypeCall "zip" ⟨[a, b, c], []⟩ = pure () := by kernel_rfl
theorem ncall3 (a b c : Value) : checkBuiltinCall "zip.__new__" ⟨[.type "zip", a, b, c], []⟩ = pure () := by kernel_rfl
section
variable {pr : Program} {w : World} {Am : Around} {Ex : Value → Shared → Prop} {s : Shared}
theorem call3 {l m n : Addr} {xs ys ws : Array Value} {Q : Value → Shared → Prop} (el : s.heap.IsList l xs) (em : s.heap.IsList m ys) (en : s.heap.IsList n ws)
    (fin : ∀ h', IsZip h' (s.heap.objs.size + 5) (s.heap.objs.size + 3) (s.heap.objs.size + 4) .none → Tri h' (s.heap.objs.size + 3) (.ref s.heap.objs.size) (.ref (s.heap.objs.size + 1)) (.ref (s.heap.objs.size + 2)) →
      Tri h' (s.heap.objs.size + 4) .none .none .none → h'.IsListIter s.heap.objs.size l 0 → h'.IsListIter (s.heap.objs.size + 1) m 0 → h'.IsListIter (s.heap.objs.size + 2) n 0 →
      (∀ c o, s.heap.get? c = some o → h'.get? c = some o) → Q (.ref (s.heap.objs.size + 5)) { s with heap := h' }) :
    wpAny (model pr w) Am (call (.type "zip") [.ref l, .ref m, .ref n]) Q Ex s := by
  refine callType_new F.called_zip (by decide) (tcall3 _ _ _) (ncall3 _ _ _) (fun obj => args4 obj _ _ _) F.entry_zip_new (meets3 l m n xs ys ws) ⟨el, em, en, ?_⟩
  have z1 : (H1 s.heap l).objs.size = s.heap.objs.size + 1 := Heap.size_push ..
  have z2 : (H1 (H1 s.heap l) m).objs.size = s.heap.objs.size + 2 := by rw [Heap.size_push, z1]
  have z3 : (H1 (H1 (H1 s.heap l) m) n).objs.size = s.heap.objs.size + 3 := by rw [Heap.size_push, z2]
  have z4 : (H4 s.heap l m n).objs.size = s.heap.objs.size + 4 := by rw [Heap.size_push, z3]
  have z5 : (H5 s.heap l m n).objs.size = s.heap.objs.size + 5 := by rw [Heap.size_push, z4]
  have p1 : ∀ {h : Heap} {o : Obj} {c : Addr} {q : Obj}, h.get? c = some q → (h.push o).get? c = some q := fun e => Heap.get?_push_of_some _ e
  have g6 : (H6 s.heap l m n).get? (H5 s.heap l m n).objs.size = some _ := Heap.get?_push_size _ rfl
  have g5 : (H6 s.heap l m n).get? (H4 s.heap l m n).objs.size = some _ := p1 (Heap.get?_push_size _ rfl)
  have g4 : (H6 s.heap l m n).get? (H1 (H1 (H1 s.heap l) m) n).objs.size = some _ := p1 (p1 (Heap.get?_push_size _ rfl))
  have g3 : (H6 s.heap l m n).get? (H1 (H1 s.heap l) m).objs.size = some _ := p1 (p1 (p1 (Heap.get?_push_size _ rfl)))
  have g2 : (H6 s.heap l m n).get? (H1 s.heap l).objs.size = some _ := p1 (p1 (p1 (p1 (Heap.get?_push_size _ rfl))))
  have g1 : (H6 s.heap l m n).get? s.heap.objs.size = some _ := p1 (p1 (p1 (p1 (p1 (Heap.get?_push_size _ rfl)))))
  show _ ∧ _
  rw [z3, z4, z5] at g6
  rw [z4] at g5
  rw [z1, z2, z3] at g4
  rw [z2] at g3
  rw [z1] at g2
  rw [z5]
  exact ⟨⟨_, g6, rfl⟩, fin _ g6 g4 g5 ⟨_, g1, rfl, rfl⟩ ⟨_, g2, rfl, rfl⟩ ⟨_, g3, rfl, rfl⟩ fun c o q => p1 (p1 (p1 (p1 (p1 (p1 q)))))⟩
end
end FwZ
set_option Elab.async false
set_option linter.all false
set_option maxRecDepth 100000
set_option maxHeartbeats 2000000
/-! Fw14: a walk over zip of three lists. -/
namespace Fw
open PySem PySem.Spec PyProof.Rows L2
/-- the lists at a, b, c, the items in new triples -/
def Itz3 (K : PySem.W.Frag) (a b c : Addr) : It :=
  ⟨fun i H => ∃ (xs ys ws : List V) (x y u : V), SqL K H a xs ∧ SqL K H b ys ∧ SqL K H c ws ∧ xs[i]? = some x ∧ ys[i]? = some y ∧ ws[i]? = some u,
    fun i H v H' => ∃ T x y u, v = .ref T ∧ H T = none ∧ H' = upd H T (.tup [x, y, u]) ∧ (∀ xs, SqL K H a xs → xs[i]? = some x) ∧ (∀ ys, SqL K H b ys → ys[i]? = some y) ∧ ∀ ws, SqL K H c ws → ws[i]? = some u,
    fun i H => ∃ xs : List V, SqL K H a xs ∧ xs.length ≤ i⟩
theorem turn3 {P : Program} {w : World} {K : PySem.W.Frag} {elts : List Expr} {kk : Nat} {tpos : Pos} {a b c z TI TO i1 i2 i3 : Addr} (D : FwZ.Ap z TI TO i1 i2 i3 a b c) :
    Turn P w K (.Tuple elts kk tpos) (Itz3 K a b c) [z, TI, TO, i1, i2, i3] z (fun i h => IsZip h z TI TO .none ∧ FwZ.Tri h TI (.ref i1) (.ref i2) (.ref i3) ∧ (∃ x y u, FwZ.Tri h TO x y u) ∧ h.IsListIter i1 a i ∧ h.IsListIter i2 b i ∧ h.IsListIter i3 c i) where
  mem := by simp
  obj := fun i h st d hd => by
    obtain ⟨hz, hTI, ⟨x, y, u, hTO⟩, ⟨o1, e1, _, d1⟩, ⟨o2, e2, _, d2⟩, ⟨o3, e3, _, d3⟩⟩ := st
    have e' : d = z ∨ d = TI ∨ d = TO ∨ d = i1 ∨ d = i2 ∨ d = i3 := by simpa using hd
    rcases e' with q | q | q | q | q | q
    · rw [q]; exact ⟨_, hz, fun v q => nomatch q⟩
    · rw [q]; exact ⟨_, hTI, fun v q => nomatch q⟩
    · rw [q]; exact ⟨_, hTO, fun v q => nomatch q⟩
    · rw [q]; exact ⟨o1, e1, fun v q => by rw [d1] at q; cases q⟩
    · rw [q]; exact ⟨o2, e2, fun v q => by rw [d2] at q; cases q⟩
    · rw [q]; exact ⟨o3, e3, fun v q => by rw [d3] at q; cases q⟩
  keep := fun i h h' st k => by
    obtain ⟨hz, hTI, ⟨x, y, u, hTO⟩, h1, h2, h3⟩ := st
    exact ⟨k z (by simp) _ hz, k TI (by simp) _ hTI, ⟨x, y, u, k TO (by simp) _ hTO⟩, h1.at fun o q => k i1 (by simp) o q, h2.at fun o q => k i2 (by simp) o q, h3.at fun o q => k i3 (by simp) o q⟩
  item := by
    intro X hP hw hK hc i pins s σ H E I hf st hg
    subst hP hw hK
    obtain ⟨hz, hTI, ⟨x0, y0, u0, hTO⟩, h1, h2, h3⟩ := st
    obtain ⟨xs, ys, ws, x, y, u, qa, qb, qc, hx, hy, hu⟩ := hg
    obtain ⟨is1, r1, p1, _⟩ := I.list qa
    obtain ⟨is2, r2, p2, _⟩ := I.list qb
    obtain ⟨is3, r3, p3, _⟩ := I.list qc
    obtain ⟨v1, e1, rv1⟩ := r1.get hx
    obtain ⟨v2, e2, rv2⟩ := r2.get hy
    obtain ⟨v3, e3, rv3⟩ := r3.get hu
    have zl : z < s.heap.objs.size := Heap.lt_size hz
    refine FwZ.next3 D hz hTI hTO h1 h2 h3 p1.isList p2.isList p3.isList (x := v1) (y := v2) (u := v3) (by simpa using e1) (by simpa using e2) (by simpa using e3) fun h' z' TO' h1' h2' h3' hT hsz hk => ?_
    refine ⟨_, rfl, wpAny_letOwnedTupleGo_zip (s := { s with heap := h' }) z' fun h'' z'' sb => ?_⟩
    have hT2 : h''.get? s.heap.objs.size = some { cls := .type "tuple", data := .seq #[v1, v2, v3] } := (sb.2 _ (Nat.ne_of_gt zl)).trans hT
    have new : ObjOk X.prog X.w (upd H s.heap.objs.size (.tup [x, y, u])) h'' s.heap.objs.size (.tup [x, y, u]) :=
      ⟨by show 3 ≤ sizeLine; decide, [v1, v2, v3], .cons rv1 (.cons rv2 (.cons rv3 .nil)), ⟨_, hT2, rfl, _, rfl⟩⟩
    have I1 : L2.Inv X pins σ (upd H s.heap.objs.size (.tup [x, y, u])) { s with heap := h'' } :=
      I.turnedNew (t' := s.toks) (ch := [z, TI, TO, i1, i2, i3]) (fun d o hb q => (sb.2 d (fun q' => hb (by simp [q']))).trans (hk d o (fun q' => hb (by simp [q'])) (fun q' => hb (by simp [q'])) (fun q' => hb (by simp [q'])) (fun q' => hb (by simp [q'])) (fun q' => hb (by simp [q'])) q)) hf (Nat.le_refl _) new
    refine ⟨.ref s.heap.objs.size, _, I1, rfl, ⟨_, x, y, u, rfl, I.hok.fresh (Nat.le_refl _), rfl, fun l hl => by rw [I.list_inj hl qa]; exact hx, fun l hl => by rw [I.list_inj hl qb]; exact hy, fun l hl => by rw [I.list_inj hl qc]; exact hu⟩, ⟨z'', ?_, ⟨v1, v2, v3, ?_⟩, ?_, ?_, ?_⟩, fun d hdm => ?_⟩
    · exact (sb.2 _ D.Iz).trans (hk _ _ D.Iz D.IO D.Ii D.Ij D.Ik hTI)
    · exact (sb.2 _ D.Oz).trans TO'
    · exact h1'.at fun o q => (sb.2 _ D.iz).trans q
    · exact h2'.at fun o q => (sb.2 _ D.jz).trans q
    · exact h3'.at fun o q => (sb.2 _ D.kz).trans q
    · have hlt : d < s.heap.objs.size := by
        have e' : d = z ∨ d = TI ∨ d = TO ∨ d = i1 ∨ d = i2 ∨ d = i3 := by simpa using hdm
        rcases e' with q | q | q | q | q | q
        · rw [q]; exact zl
        · rw [q]; exact Heap.lt_size hTI
        · rw [q]; exact Heap.lt_size hTO
        · rw [q]; obtain ⟨_, e1, _⟩ := h1; exact Heap.lt_size e1
        · rw [q]; obtain ⟨_, e2, _⟩ := h2; exact Heap.lt_size e2
        · rw [q]; obtain ⟨_, e3, _⟩ := h3; exact Heap.lt_size e3
      rw [upd_ne (Nat.ne_of_lt hlt)]
      exact (hf d hdm).1
  done := by
    intro X hP hw hK hc i pins s σ H E I hf st hg
    subst hP hw hK
    obtain ⟨hz, hTI, ⟨x0, y0, u0, hTO⟩, h1, h2, h3⟩ := st
    obtain ⟨xs, qa, hend⟩ := hg
    obtain ⟨is1, r1, p1, _⟩ := I.list qa
    have l1 := r1.length
    have he : is1.toArray[i]? = none := by simp; omega
    exact FwZ.stop3 (I.ok.hd hc) D hz hTI h1 p1.isList he fun h' hk => ⟨rfl, I.turnedL (t' := s.toks) (ch := [z, TI, TO, i1, i2, i3]) (fun d o hb q =>
      hk d o (fun q' => hb (by simp [q'])) (fun q' => hb (by simp [q'])) (fun q' => hb (by simp [q'])) (fun q' => hb (by simp [q'])) (fun q' => hb (by simp [q'])) q) hf⟩
  self := fun A i s Q E st h => wpAny_pyIter_zip st.1 h
def iZip3 (K : PySem.W.Frag) (ta : TA) : TI := fun σ H R => ta σ H fun vs H1 => ∃ a b c xs ys ws, vs = [.ref a, .ref b, .ref c] ∧ SqL K H1 a xs ∧ SqL K H1 b ys ∧ SqL K H1 c ws ∧ R (Itz3 K a b c) H1
theorem pi_zip3 {X : Cx} {e e2 e3 : Expr} {ta : TA} {p pos tpos : Pos} {elts : List Expr} {kk : Nat} (hg : Gl X "zip") (hm : X.mg "zip" = none) (ha : PA X [e, e2, e3] ta)
    (hs : starEach [e, e2, e3] X.env = (false, eval e X.env) :: starEach [e2, e3] X.env := by rfl) (hpl : (backTo pos (starEach [e2, e3] X.env)).any (·.1) = false := by rfl) :
    PI X (.Tuple elts kk tpos) (.Call (.Name "zip" p) [e, e2, e3] [] pos) (iZip3 X.K ta) := by
  refine ⟨fun pins s σ H R I h => ?_⟩
  refine Call_ (ld_blt I hg hm PyProof.Rows.boot_zip (PyProof.Rows.callWith_type1 (thn (ha.run pos pins s σ H _ I h) fun us s1 ⟨vs, H1, I1, r1, q1⟩ => ?_) hs hpl))
  obtain ⟨a, b, c, xs, ys, ws, ex, qa, qb, qc, q⟩ := q1
  subst ex
  cases r1 with
  | cons r rr =>
    cases rr with
    | cons r' rr =>
      cases rr with
      | cons r'' rr =>
        cases rr
        cases r
        cases r'
        cases r''
        obtain ⟨is1, rv1, p1, _⟩ := I1.list qa
        obtain ⟨is2, rv2, p2, _⟩ := I1.list qb
        obtain ⟨is3, rv3, p3, _⟩ := I1.list qc
        have la : a < s1.heap.objs.size := p1.lt
        have lb : b < s1.heap.objs.size := p2.lt
        have lc : c < s1.heap.objs.size := p3.lt
        refine FwZ.call3 p1.isList p2.isList p3.isList fun h' hz hTI hTO h1 h2 h3 hk => wpAny_pyIter_zip hz ?_
        have I2 : L2.Inv X pins σ H1 { s1 with heap := h' } := I1.kept (t' := s1.toks) hk
        have ap : FwZ.Ap (s1.heap.objs.size + 5) (s1.heap.objs.size + 3) (s1.heap.objs.size + 4) s1.heap.objs.size (s1.heap.objs.size + 1) (s1.heap.objs.size + 2) a b c := by
          generalize s1.heap.objs.size = n at la lb lc ⊢
          exact ⟨by simp [Addr], by simp [Addr], by show n ≠ n + 5; omega, by simp [Addr], by simp [Addr], by simp [Addr], by show n + 3 ≠ n; omega, by simp [Addr], by simp [Addr], by show n + 4 ≠ n; omega, by simp [Addr], by simp [Addr], by show n ≠ n + 1; omega, by show n ≠ n + 2; omega, by simp [Addr], fun x hx => by
            have : x < n := by rcases hx with rfl | rfl | rfl <;> assumption
            refine ⟨?_, ?_, ?_, ?_, ?_⟩ <;> (intro q; rw [q] at this; have t : (_ : Nat) < (_ : Nat) := this; omega)⟩
        refine ⟨s1.heap.objs.size + 5, [s1.heap.objs.size + 5, s1.heap.objs.size + 3, s1.heap.objs.size + 4, s1.heap.objs.size, s1.heap.objs.size + 1, s1.heap.objs.size + 2], _, _, H1, rfl, I2, turn3 ap, ⟨hz, hTI, ⟨_, _, _, hTO⟩, h1, h2, h3⟩, fun d hdm => ?_, q⟩
        have e' : d = s1.heap.objs.size + 5 ∨ d = s1.heap.objs.size + 3 ∨ d = s1.heap.objs.size + 4 ∨ d = s1.heap.objs.size ∨ d = s1.heap.objs.size + 1 ∨ d = s1.heap.objs.size + 2 := by simpa using hdm
        have hle : s1.heap.objs.size ≤ d := by
          rcases e' with z | z | z | z | z | z
          · rw [z]; exact Nat.le_add_right _ _
          · rw [z]; exact Nat.le_add_right _ _
          · rw [z]; exact Nat.le_add_right _ _
          · rw [z]; exact Nat.le_refl _
          · rw [z]; exact Nat.le_add_right _ _
          · rw [z]; exact Nat.le_add_right _ _
        exact I1.fpOk hle (I1.hok.fresh hle)

/-! ### in the framework -/
/-- a list that stands while the body runs: nobody's, or that of a slot which is left alone -/
def LstS (W : Wd) (fb : List Nat) (own : List (Nat × Addr)) (H : Hp) (a : Addr) (ds : List D) : Prop :=
  (∃ xs, Rd H a (.lst xs) ∧ ¬ Avd W own a ∧ Vas H (Avd W own) xs ds) ∨ ∃ q xs, q.2 = a ∧ q.1 ∈ fb ∧ q ∈ own ∧ H a = some (.lst xs) ∧ Vas H (Avd W own) xs ds
section
variable {W : Wd} {fb : List Nat} {own own' : List (Nat × Addr)} {H H' : Hp} {a : Addr} {ds : List D}
theorem LstS.keep (f : Fr2 W fb own own' H H') (h : LstS W fb own H a ds) : LstS W fb own' H' a ds := by
  rcases h with ⟨xs, r, n, w⟩ | ⟨q, xs, rfl, hq, ho, e, w⟩
  · obtain ⟨o, e⟩ := Rd.is r
    exact .inl ⟨xs, Rd.to (fun o e => f.va.1 _ o e n) r, f.va.2 _ o e n, Vas.to f.va.1 f.va.2 _ _ w⟩
  · exact .inr ⟨q, xs, rfl, hq, (f.lk q ho hq).1, (f.lk q ho hq).2.trans e, Vas.to f.va.1 f.va.2 _ _ w⟩
theorem LstS.sq (K : PySem.W.Frag) (h : LstS W fb own H a ds) : ∃ xs, SqL K H a xs ∧ Vas H (Avd W own) xs ds := by
  rcases h with ⟨xs, r, n, w⟩ | ⟨q, xs, rfl, hq, ho, e, w⟩
  · exact ⟨xs, .inl r, w⟩
  · exact ⟨xs, SqL.of e, w⟩
def zip3D (as bs cs : List D) : List D := (as.zip (bs.zip cs)).map fun p => .tuple [p.1, p.2.1, p.2.2]
theorem zip3D_get {as bs cs : List D} {i : Nat} {d : D} (h : (zip3D as bs cs)[i]? = some d) : ∃ x y u, as[i]? = some x ∧ bs[i]? = some y ∧ cs[i]? = some u ∧ d = .tuple [x, y, u] := by
  unfold zip3D at h
  rw [List.getElem?_map, Option.map_eq_some_iff] at h
  obtain ⟨p, hp, rfl⟩ := h
  rw [List.getElem?_zip_eq_some] at hp
  obtain ⟨h1, h2⟩ := hp
  rw [List.getElem?_zip_eq_some] at h2
  exact ⟨_, _, _, h1, h2.1, h2.2, rfl⟩
theorem src_zip3 {K : PySem.W.Frag} {a b c : Addr} {as bs cs : List D} (h1 : as.length = bs.length) (h2 : bs.length = cs.length) : Src W fb (Itz3 K a b c) (zip3D as bs cs) (fun own H => LstS W fb own H a as ∧ LstS W fb own H b bs ∧ LstS W fb own H c cs) where
  keep := fun own own' H H' f ⟨r1, r2, r3⟩ => ⟨r1.keep f, r2.keep f, r3.keep f⟩
  go := fun own H i d ⟨r1, r2, r3⟩ t e => by
    obtain ⟨x, y, u, e1, e2, e3, rfl⟩ := zip3D_get e
    obtain ⟨xs, q1, w1⟩ := r1.sq K
    obtain ⟨ys, q2, w2⟩ := r2.sq K
    obtain ⟨ws, q3, w3⟩ := r3.sq K
    obtain ⟨v1, f1, g1⟩ := w1.get e1
    obtain ⟨v2, f2, g2⟩ := w2.get e2
    obtain ⟨v3, f3, g3⟩ := w3.get e3
    refine ⟨⟨xs, ys, ws, v1, v2, v3, q1, q2, q3, f1, f2, f3⟩, fun z H' hz => ?_⟩
    obtain ⟨T, x', y', u', rfl, hT, rfl, k1, k2, k3⟩ := hz
    have := k1 _ q1
    rw [f1] at this
    cases this
    have := k2 _ q2
    rw [f2] at this
    cases this
    have := k3 _ q3
    rw [f3] at this
    cases this
    have s := same_upd (o := .tup [v1, v2, v3]) hT
    exact ⟨s, .tup (.inl upd_same) (t.new hT) (.cons (g1.same s) (.cons (g2.same s) (.cons (g3.same s) .nil)))⟩
  stop := fun own H i ⟨r1, r2, r3⟩ h => by
    obtain ⟨xs, q1, w1⟩ := r1.sq K
    refine ⟨xs, q1, ?_⟩
    rw [w1.len]
    unfold zip3D at h
    simp only [List.length_map, List.length_zip] at h
    omega
theorem Wk.lst {W : Wd} {fb : List Nat} {own : List (Nat × Addr)} {σ : L2.St} {H : Hp} {env : Env} {v : V} {ds : List D} (G : Good W own σ H env) (hfo : ∀ i ∈ W.os, (∀ a, W.pot ≠ some (i, a)) → i ∈ fb) (w : Wk W own H v (.list ds)) : ∃ a, v = .ref a ∧ LstS W fb own H a ds := by
  rcases w with w | ⟨p, hp, hn, rfl, xs, ds', e1, e2, e3⟩
  · cases w with
    | lst r n w => exact ⟨_, rfl, .inl ⟨_, r, n, w⟩⟩
  · cases e2
    refine ⟨_, rfl, .inr ⟨p, xs, rfl, hfo p.1 (G.osub p hp) fun a z => hn ?_, hp, e1, e3⟩⟩
    rw [z, slot_uniq G.ns (G.pin _ z) hp rfl]
theorem LstS.plus {H : Hp} {xa : List Addr} (hx : ∀ p ∈ xa, H p = none) (h : LstS W fb own H a ds) : LstS (W.plus xa) fb own H a ds := by
  rcases h with ⟨xs, r, n, w⟩ | ⟨q, xs, rfl, hq, ho, e, w⟩
  · exact .inl ⟨xs, r, (Rd.is r).elim fun o e => avd_plus hx _ o e n, Vas.to (fun _ _ e _ => e) (avd_plus hx) _ _ w⟩
  · exact .inr ⟨q, xs, rfl, hq, ho, e, Vas.to (fun _ _ e _ => e) (avd_plus hx) _ _ w⟩
end
def aZ3 (m : AM) : AM := fun e => match m e with
  | some ([.list as, .list bs, .list cs], e1) => if as.length = bs.length ∧ bs.length = cs.length then some (zip3D as bs cs, e1) else none
  | _ => none
section
variable {c : Ctx} {fb : List Nat} {e1 e2 e3 : Expr} {mr : AM} {p pos tpos : Pos} {elts : List Expr} {kk : Nat}
theorem ri_zip3 (ha : RA c [e1, e2, e3] mr) (hfo : ∀ i ∈ c.os, c.pw ≠ some i → i ∈ fb) (hm : c.mg ("zip" : Str) = none) (hg : c.sc.names.lookup ("zip" : Str) = some .globalImplicit := by rfl)
    (hs : ∀ env, starEach [e1, e2, e3] env = (false, eval e1 env) :: starEach [e2, e3] env := by intro _; rfl) (hpl : ∀ env, (backTo pos (starEach [e2, e3] env)).any (·.1) = false := by intro _; rfl) :
    RI c fb (.Tuple elts kk tpos) (.Call (.Name ("zip" : Str) p) [e1, e2, e3] [] pos) (aZ3 mr) := by
  obtain ⟨ta, pa, ha⟩ := ha
  refine ⟨iZip3 c.K ta, fun X h => by rw [← h.k]; exact pi_zip3 (by show X.env.scope.names.lookup _ = _; rw [h.sc]; exact hg) (by rw [h.mg]; exact hm) (pa X h) (hs _) (hpl _), fun W own σ H env ds env' R ft G e q => ?_⟩
  unfold aZ3 at e
  split at e
  · rename_i as bs cs e4 h1
    split at e
    · rename_i hl
      cases e
      refine ha W own σ H env _ _ _ ft G h1 fun vs H' x1 G' w => ?_
      have hfo' : ∀ i ∈ W.os, (∀ a, W.pot ≠ some (i, a)) → i ∈ fb := fun i hi hn => hfo i (by rw [← ft.2.1]; exact hi) fun z => by
        obtain ⟨a, ha⟩ := fit_pot z ft
        exact hn a ha
      match vs, w with
      | [v1, v2, v3], ⟨w1, w2, w3, _⟩ =>
        obtain ⟨a1, rfl, l1⟩ := w1.lst G' hfo'
        obtain ⟨a2, rfl, l2⟩ := w2.lst G' hfo'
        obtain ⟨a3, rfl, l3⟩ := w3.lst G' hfo'
        obtain ⟨xs, q1, _⟩ := l1.sq c.K
        obtain ⟨ys, q2, _⟩ := l2.sq c.K
        obtain ⟨ws, q3, _⟩ := l3.sq c.K
        exact ⟨a1, a2, a3, xs, ys, ws, rfl, q1, q2, q3, q _ H' x1 G' fun xa hx => ⟨_, src_zip3 hl.1 hl.2, l1.plus hx, l2.plus hx, l3.plus hx⟩⟩
    · cases e
  · cases e
end
end Fw
set_option Elab.async false
set_option linter.all false
set_option maxRecDepth 100000
set_option maxHeartbeats 2000000
/-! Fs: what the words of the denotations tell. -/
namespace Fw
open PySem PySem.Spec PyProof.Rows L2
/-- a body that does not fall off its end -/
def NoNx (b : SM) : Prop := ∀ e e', b e ≠ some (.nx, e')
theorem nonx_seq {a b : SM} (h : NoNx b) : NoNx (sSeq a b) := fun e e' q => by
  unfold sSeq at q
  split at q
  · exact h _ _ q
  · rename_i h1 h2
    exact h2 _ q
theorem nonx_ret {m : EM} : NoNx (sRet m) := fun e e' q => by
  unfold sRet at q
  split at q <;> cases q
theorem nonx_if {t : BM} {a b : SM} (ha : NoNx a) (hb : NoNx b) : NoNx (sIf t a b) := fun e e' q => by
  unfold sIf at q
  split at q
  · exact ha _ _ q
  · exact hb _ _ q
  · cases q
/-! ### how a body runs -/
theorem seq_nx {a b : SM} {e e1 : Env} (h : a e = some (.nx, e1)) : sSeq a b e = b e1 := by
  unfold sSeq
  rw [h]
theorem seq_rt {a b : SM} {e e1 : Env} {r : D} (h : a e = some (.rt r, e1)) : sSeq a b e = some (.rt r, e1) := by
  unfold sSeq
  rw [h]
theorem if_t {t : BM} {a b : SM} {e e1 : Env} (h : t e = some (true, e1)) : sIf t a b e = a e1 := by
  unfold sIf
  rw [h]
theorem if_f {t : BM} {a b : SM} {e e1 : Env} (h : t e = some (false, e1)) : sIf t a b e = b e1 := by
  unfold sIf
  rw [h]
theorem set_nx {i : Nat} {m : EM} {e e1 : Env} {d : D} (h : m e = some (d, e1)) : sSet i m e = some (.nx, e1.set i (some d)) := by
  unfold sSet
  rw [h]
theorem ret_rt {m : EM} {e e1 : Env} {d : D} (h : m e = some (d, e1)) : sRet m e = some (.rt d, e1) := by
  unfold sRet
  rw [h]
theorem runD_rt {n N : Nat} {b : SM} {ds : List D} {r : D} {e' : Env} (hn : ds.length = n) (h : b (ds.map some ++ List.replicate (N - n) none) = some (.rt r, e')) : runD n N b ds = some (r, .none) := by
  unfold runD
  rw [if_pos hn, h]
theorem runP_rt {n N : Nat} {b : SM} {ds : List D} {r d : D} {e' : Env} (hn : ds.length = n) (h : b (ds.map some ++ List.replicate (N - n) none) = some (.rt r, some d :: e')) : runP n N b ds = some (r, d) := by
  unfold runP
  rw [if_pos hn, h]
theorem forL_cons {g : GM} {b : SM} {d : D} {ds : List D} {e e1 e2 : Env} (h1 : g d e = some e1) (h2 : b e1 = some (.nx, e2)) : forL g b (d :: ds) e = forL g b ds e2 := by
  rw [forL]
  simp only [h1, h2]
theorem for_nx {i : AM} {g : GM} {b : SM} {e e1 : Env} {ds : List D} (h : i e = some (ds, e1)) : sFor i g b e = forL g b ds e1 := by
  unfold sFor
  rw [h]
theorem dEq_int (i j : Int) : dEq (.int i) (.int j) = some (.bool (decide (i = j))) := rfl
theorem dNe_int (i j : Int) : dNe (.int i) (.int j) = some (.bool (!decide (i = j))) := rfl
theorem dNe_str (x : Str) : dNe (.str x) (.str x) = some (.bool false) := by
  show some (PyData.bool (!decide (V.str x = V.str x))) = _
  rw [decide_eq_true rfl]
  rfl
end Fw
set_option Elab.async false
set_option linter.all false
set_option maxRecDepth 100000
set_option maxHeartbeats 4000000
/-! FwM: raise of own classes; try with clauses, named and not; what is caught is asked. -/
namespace Fw
open PySem PySem.Spec PyProof.Rows L2
section
variable {X : Cx} {x : Str} {C : Addr} {p pos : Pos}
/-- raise C(), C without an own __init__ -/
theorem pmk_own0 {B newId initId : String} {bmB : List Value} (F : ExcBaseFacts B newId initId bmB) (q : PySem.W.excIn X.K C bmB newId = true) (kC : PySem.W.keepIn X.K (.ref C) = true) (r : Raises X (.ref C)) (hg : Gl X x) (hm : X.mg x = some (.ref C))
    (hdb : (x == ("__debug__" : Str)) = false := by decide) : PMk X (.Call (.Name x p) [] [] pos) (fun _ H Q => Q (.ref C) none H) := by
  intro pins s σ H Q I h
  refine wpAny_Call_Name_kw (ld_glob I hg hm ?_ hdb)
  refine PySem.W.callWith_KW0 (h₀ := X.base) I.ok.mod.kin kC (by rfl) ?_ (by rfl)
  refine wpAny_evalAll_nil ⟨I.kIn, ?_⟩
  show wpAny _ _ (call (.ref C) []) _ _ _
  obtain ⟨bm, N, nm, qn, bs, hdct, sn, sub, ab, col, dd, k0, k1, k2, k3, k5, mN, hC, hN, hni, T⟩ := exc_obj I.kIn q
  obtain ⟨hp, g, dr, tk, os⟩ := s
  refine wpAny_call_exc_subT F T hC hN hni (fun h' a hx => ?_) (by exact Nat.zero_le _)
  exact mk_of I hx r h (I.hok.gone hx.new)
/-- raise C(f = e) -/
theorem pmk_oexK {fI : Addr} {k : Nat} {fd : FuncData} {ps : List Str} {sp : Sp} {tk : TA} {kws : List Keyword} {ks : List Str} (T : OexC X.K C) (iC : PySem.W.findIn X.K (.ref C) "__init__" = some (some (.ref fI))) (tI : PySem.W.typeIn X.K (.ref fI) = some (.type "function"))
    (F1 : FnOk X.prog X.w X.K X.mg X.base CX0 k fI fd ps sp) (hr : Room (k + 1) X.A) (hb : FwX.KBo X.K fd ps ks) (hg : Gl X x) (hm : X.mg x = some (.ref C)) (hkw : PK X kws tk)
    (hall : (backToKw pos (keywordEach kws X.env)).all (·.1.isSome) = true := by rfl) (hks : (backToKw pos (keywordEach kws X.env)).filterMap (·.1) = ks := by rfl) (hdb : (x == ("__debug__" : Str)) = false := by decide)
    (hpl : ((backTo pos (starEach [] X.env)).any (·.1) || (backToKw pos (keywordEach kws X.env)).any (·.1.isNone)) = false := by rfl) :
    PMk X (.Call (.Name x p) [] kws pos) (tMkO C sp [] tk) := by
  intro pins s σ H Q I h
  obtain ⟨nm, q, N, bs, bm, sn, sub, ab, col, dd, k0, k1, k2, k3, k5, hC, hbm⟩ := T.cls
  refine wpAny_Call_Name_kw (ld_glob I hg hm ?_ hdb)
  refine PySem.W.callWith_KW0 (h₀ := X.base) I.ok.mod.kin T.kC hall ?_ hpl
  refine thn (hkw.run pos pins s σ H _ I h) fun ws s1 ⟨zs, H1, I1, rz, hz, q1⟩ => ⟨I1.kIn, ?_⟩
  rw [hks]
  show wpAny _ _ (call (.ref C) [] (ks.zip ws)) _ _ _
  obtain ⟨hp, g, dr, tk1, os⟩ := s1
  have hsz : hp.objs.size ≤ hp.objs.size + 1 := Nat.le_succ _
  have hn : H1 (hp.objs.size + 1) = none := I1.hok.fresh hsz
  have hq := q1 (hp.objs.size + 1) hn
  rw [List.append_nil] at hq
  have kk : ∀ b o, hp.get? b = some o → ((hp.push (PySem.W.kdv_tup [])).push (PySem.HandSPX.excO C hp.objs.size)).get? b = some o := fun b o e => Heap.get?_push_of_some _ (Heap.get?_push_of_some _ e)
  have hget : ((hp.push (PySem.W.kdv_tup [])).push (PySem.HandSPX.excO C hp.objs.size)).get? (hp.objs.size + 1) = some (PySem.HandSPX.excO C hp.objs.size) := by heap_get
  have I2 : L2.Inv X pins σ (upd H1 (hp.objs.size + 1) (exo (hp.objs.size + 1) C none)) ⟨(hp.push (PySem.W.kdv_tup [])).push (PySem.HandSPX.excO C hp.objs.size), g, dr, tk1, os⟩ :=
    I1.laid (t' := tk1) (a := hp.objs.size + 1) (o := exo (hp.objs.size + 1) C none) (h' := (hp.push (PySem.W.kdv_tup [])).push (PySem.HandSPX.excO C hp.objs.size)) kk hsz (exo_ok hget)
  have hl : ([Value.ref (hp.objs.size + 1)] ++ ws).length = ps.length := by
    rw [← F1.len _ _ _ _ hq, List.length_append, List.length_cons, List.length_cons, rz.length]
    simp [Nat.add_comm]
  have hbd := hb.to ⟨(hp.push (PySem.W.kdv_tup [])).push (PySem.HandSPX.excO C hp.objs.size), g, dr, tk1, os⟩ (Value.ref (hp.objs.size + 1)) ws I2.kIn hl
  refine wpAny_call (FwX.callKw F.excBase_ValueError (fun Y => PySem.HandSPX.refsVE_contains Y bm hbm) (I1.kIn _ _ hC) (PySem.W.looks_findIn I1.kIn iC) (fun self => PySem.W.bind_fn I1.kIn self tI)
    (codeAny_mono (F1.run _ X.stack _ _ ⟨[Value.ref (hp.objs.size + 1)], ks.zip ws⟩ ([Value.ref (hp.objs.size + 1)] ++ ws) _ _ (fun _ _ _ => False) (hr.make C [] _) (I2.env0.make C [] _) hbd (.cons (show RelV (V.ref (hp.objs.size + 1)) (Value.ref (hp.objs.size + 1)) from rfl) rz) hq) fun r s' hq' => ?_))
  cases r with
  | error er => exact hq'.elim
  | ok fl =>
    cases fl with
    | ret u =>
      obtain ⟨v, H2, os2, bare2, un2, hok2, rv, ev, d, fs, ea, ed, hd1, q2⟩ := hq'
      subst ev
      obtain ⟨h2, g2, d2, t2, os'⟩ := s'
      exact ⟨rv, mk_end (raises_own T.exC T.tyC) I1 hsz kk un2 hok2 os2 bare2 ea ed hd1 q2⟩
    | next => exact False.elim hq'
    | brk => exact False.elim hq'
    | cont => exact False.elim hq'
end
/-! ### several clauses, with a name or without -/
abbrev TSu := Addr → Value → Option Addr → TS
def endsOff (i : Nat) (D : Ends) : Ends := { nx := fun σ' H' => D.nx (σ'.set i none) H', rt := D.rt, bk := fun σ' H' => D.bk (σ'.set i none) H', ct := fun σ' H' => D.ct (σ'.set i none) H' }
def wMix (K : PySem.W.Frag) (Wout : WX) (D : Ends) : List (Value × Option Nat × TSu) → WX
  | [] => Wout
  | (c, none, ts) :: r => fun cls d σ H => ∃ b, PySem.W.exmOne K cls c = some b ∧ (b = true → ∀ a, H a = none → ts a cls d D σ H) ∧ (b = false → wMix K Wout D r cls d σ H)
  | (c, some i, ts) :: r => fun cls d σ H => ∃ b, PySem.W.exmOne K cls c = some b ∧ (b = true → ∀ a, H a = none → ts a cls d (endsOff i D) (σ.set i (some (.ref a))) H) ∧ (b = false → wMix K Wout D r cls d σ H)
inductive HdsM (X : Cx) : List ExceptHandler → List (Value × Option Nat × TSu) → Prop
  | nil : HdsM X [] []
  | one {x : Str} {c : Value} {ts : TSu} {b₀ : Stmt} {suite : List Stmt} {np pos' : Pos} {hds : List ExceptHandler} {l : List (Value × Option Nat × TSu)} (hc : Names X x c)
      (hsu : ∀ (a : Addr) (oe : Obj) (cls : Value) (d : Option Addr) (pn : List (Addr × Obj)), Zc cls d oe → (∃ vs, oe.data = .fields vs) → PSs (X.suite a ((a, oe) :: pn)) (b₀ :: suite) (ts a cls d)) (r : HdsM X hds l) :
      HdsM X (.ExceptHandler (some (.Name x np)) none (b₀ :: suite) pos' :: hds) ((c, none, ts) :: l)
  | as {x n : Str} {c : Value} {i : Nat} {ts : TSu} {b₀ : Stmt} {suite : List Stmt} {np pos' : Pos} {hds : List ExceptHandler} {l : List (Value × Option Nat × TSu)} (hc : Names X x c) (hN : X.N.Nodup) (hi : X.N[i]? = some n) (hln : X.env.kindOf n = some .local)
      (hsu : ∀ (a : Addr) (oe : Obj) (cls : Value) (d : Option Addr) (pn : List (Addr × Obj)), Zc cls d oe → (∃ vs, oe.data = .fields vs) → PSs (X.suite a ((a, oe) :: pn)) (b₀ :: suite) (ts a cls d)) (r : HdsM X hds l) :
      HdsM X (.ExceptHandler (some (.Name x np)) (some n) (b₀ :: suite) pos' :: hds) ((c, some i, ts) :: l)
section
variable {X : Cx} {body : List Stmt} {h₀ : ExceptHandler} {hds : List ExceptHandler} {l : List (Value × Option Nat × TSu)} {pos : Pos} {tb : WX → TS} {Wout : WX}
theorem ps_try_mix (st : X.stack = X.env :: X.outer) (fr : X.env.frame = some X.env.locals) (tk : Takes X Wout)
    (hb : ∀ (W : WX) (pn : List (Addr × Obj)) (xe : Value → Shared → Prop), Takes (X.tr pn xe) W → PassesOwn (model X.prog X.w) X.A X.env xe → PSs (X.tr pn xe) body (tb W)) (hh : HdsM X (h₀ :: hds) l) :
    PS X (.Try body (h₀ :: hds) [] [] pos) (fun D σ H => tb (wMix X.K Wout D l) D σ H) := by
  refine ⟨fun pins s σ H D I h => ?_⟩
  have ok := I.ok
  have frames : X.A.frames = some (X.env :: X.outer) := by rw [ok.frames, st]
  refine wpAny_Try_except ?_
  refine wpAny_mono ((hb (wMix X.K Wout D l) (X.pn ++ pins) (fun e s₁ => wpAny (model X.prog X.w) X.A (noteFrame e X.env) (fun _ s₂ => wpAny (model X.prog X.w) X.A (setFlight e none) (fun _ s₃ =>
    wpAny (model X.prog X.w) X.A (handleBy e X.env (h₀ :: hds)) (SP X pins D) X.xe s₃) X.xe s₂) X.xe s₁) (fun u s' up0 => ?_) PassesOwn.looking).run [] s σ H D (I.toTry _) h) (fun f s1 hsp => ?_) (fun e s1 he => he)
  · obtain ⟨a, B, sI, pins', σ', H', cls, d, rfl, J0, nb, up, sky, na, os, ag, wish⟩ := up0
    have J : L2.Inv X pins σ' H' sI := J0.ofTry ok
    have sky2 : Sky B (X.env :: X.outer) a (Zc cls d) X.env.locals s'.heap := by rw [← st]; exact sky
    show wpAny (model X.prog X.w) X.A (noteFrame (.ref a) X.env) _ _ _
    refine Sky.land Zc.steady frames fr sky2 fun h3 fl3 up3 => ?_
    have J3 : L2.Inv X pins σ' H' { s' with heap := h3 } := J.landed nb fl3.1 (up.trans up3) os ag
    obtain ⟨oe3, vs3, he3, hz3, hd3⟩ := fl3.there
    have apart : ∀ {h : Heap} {o : Obj} {vs : Array Value}, h.FunFrames B (X.env :: X.outer) → h.get? a = some o → o.data = .fields vs → a ∉ frs (X.env :: X.outer) := fun {h o vs} ff e dd hm => by
      obtain ⟨_, o2, e2, no⟩ := ff.mem hm
      rw [e] at e2; cases e2
      exact no _ dd
    have nfr := apart fl3.2.2.1 he3 hd3
    have nL : a ≠ X.env.locals := fun z => nfr (List.mem_filterMap.mpr ⟨X.env, List.mem_cons_self, by rw [fr, z]⟩)
    have nF : a ∉ X.fs := fun hm => by
      obtain ⟨e, he, q⟩ := List.mem_filterMap.mp hm
      exact nfr (List.mem_filterMap.mpr ⟨e, List.mem_cons_of_mem _ he, q⟩)
    have S3 := J3.suite he3 hd3 na nL nF
    have LT : PySem.W.Looks (model X.prog X.w) h3 (typeOf (.ref a)) cls := fun A Q E s k q => wpAny_typeOf_ref (k _ _ he3) (by rw [hz3.1]; exact q)
    have test : ∀ {x : Str} {c : Value} {np : Pos} {Q : Value → Shared → Prop} {E : Value → Shared → Prop}, Names X x c → Q c { s' with heap := h3 } → wpAny (model X.prog X.w) (X.A.mark (some (.ref a))) (eval (.Name x np) X.env) Q E { s' with heap := h3 } := fun {x c np Q E} hc q => by
      obtain ⟨hg, hdbg, hm | ⟨hm, hv, hnn⟩⟩ := hc
      · exact ld_glob (X := X.suite a ((a, oe3) :: (X.pn ++ pins))) S3 hg hm q hdbg
      · exact ld_blt (X := X.suite a ((a, oe3) :: (X.pn ++ pins))) S3 hg hm hv q hnn hdbg
    have go : ∀ {hds' : List ExceptHandler} {l' : List (Value × Option Nat × TSu)}, HdsM X hds' l' → wMix X.K Wout D l' cls d σ' H' →
        wpAny (model X.prog X.w) X.A (handleBy (.ref a) X.env hds') (SP X pins D) X.xe { s' with heap := h3 } := by
      intro hds' l' hk
      induction hk with
      | nil =>
        intro wish
        refine wpAny_handleBy_nil ?_
        obtain ⟨k1, k2, k3, oe, vs, T, oT, ts', he, hz, hd, h1, hr⟩ := id fl3
        unfold PySem.passOn
        refine wpAny_bind (wpAny_field he hd h1 ?_)
        rw [if_neg (show ¬ ((Value.ref T == Value.none) = true) from by simp)]
        have fin : wpAny (model X.prog X.w) X.A (setFlight (.ref a) X.env.frame) (fun _ s4 => wpAny (model X.prog X.w) X.A (throw (.ref a) : Sem Flow) (SP X pins D) X.xe s4) X.xe { s' with heap := h3 } := by
          rw [fr]
          refine HandSPX.setFlight_upZ fl3 fun h4 hh4 up4 => wpAny_throw (tk _ _ ?_)
          exact ⟨a, B, sI, pins, σ', H', cls, d, rfl, J, nb, (up.trans up3).trans up4, .inr (.inr (by rw [st]; exact hh4)), na, os, ag, wish⟩
        first
          | exact wpAny_bind (wpAny_pure (wpAny_bind fin))
          | exact wpAny_bind fin
      | @one x c ts b₀ suite np pos' hds2 l2 hc hsu r ih =>
        intro wish
        obtain ⟨b, hb1, hyes, hno⟩ := wish
        refine wpAny_handleBy_cons (codeAny_handlers_test ?_) (by intro q; cases q)
        have LM := PySem.W.exm_one (M := model X.prog X.w) (J3.kIn) LT hb1
        refine test hc (LM.here ?_)
        cases b with
        | true =>
          refine codeAny_handlers_suite ?_
          refine HandSPX.lands_againZ fl3 fun h4 fl4 up4 => ?_
          have J4 : L2.Inv X pins σ' H' { s' with heap := h4 } := J.landed nb fl4.1 ((up.trans up3).trans up4) os ag
          obtain ⟨oe4, vs4, he4, hz4, hd4⟩ := fl4.there
          have S4 := J4.suite he4 hd4 na nL nF
          refine wpAny_mono ((hsu a oe4 cls d (X.pn ++ pins) hz4 ⟨_, hd4⟩).run [] _ _ H' _ S4 (hyes rfl a na)) (fun f s6 hsp => ?_) (fun _ _ z => False.elim z)
          cases f with
          | ret u =>
            obtain ⟨v6, σ6, H6, S6, r6, q6⟩ := hsp
            exact ⟨_, _, _, S6.unsuite ok, r6, q6⟩
          | next =>
            obtain ⟨σ6, H6, S6, q6⟩ := hsp
            exact ⟨_, _, S6.unsuite ok, q6⟩
          | brk =>
            obtain ⟨σ6, H6, S6, q6⟩ := hsp
            exact ⟨_, _, S6.unsuite ok, q6⟩
          | cont =>
            obtain ⟨σ6, H6, S6, q6⟩ := hsp
            exact ⟨_, _, S6.unsuite ok, q6⟩
        | false =>
          show wpAny _ X.A (handleBy (.ref a) X.env hds2) _ _ _
          exact ih (hno rfl)
      | @as x n c i ts b₀ suite np pos' hds2 l2 hc hN hi hln hsu r ih =>
        intro wish
        obtain ⟨b, hb1, hyes, hno⟩ := wish
        have hloc : Loc X.env.scope n := .inl hln
        refine wpAny_handleBy_cons (codeAny_handlers_test ?_) (by intro q; cases q)
        have LM := PySem.W.exm_one (M := model X.prog X.w) (J3.kIn) LT hb1
        refine test hc (LM.here ?_)
        cases b with
        | true =>
          refine codeAny_handlers_suite_as ?_
          refine HandSPX.lands_againZ fl3 fun h4 fl4 up4 => ?_
          have J4 : L2.Inv X pins σ' H' { s' with heap := h4 } := J.landed nb fl4.1 ((up.trans up3).trans up4) os ag
          obtain ⟨oe4, vs4, he4, hz4, hd4⟩ := fl4.there
          have S4 := J4.suite he4 hd4 na nL nF
          refine store_ok (X := X.suite a ((a, oe4) :: (X.pn ++ pins))) (v := .ref a) S4 hN hi hloc rfl (fun s5 S5 => ?_) (.inr hln)
          refine wpAny_mono ((hsu a oe4 cls d (X.pn ++ pins) hz4 ⟨_, hd4⟩).run [] s5 _ H' _ S5 (hyes rfl a na)) (fun f s6 hsp => ?_) (fun _ _ z => False.elim z)
          have off : ∀ {σ6 : L2.St} {H6 : Hp} {Q : Shared → Prop}, L2.Inv (X.suite a ((a, oe4) :: (X.pn ++ pins))) [] σ6 H6 s6 → (∀ s7, L2.Inv X pins (σ6.set i none) H6 s7 → Q s7) →
              wpAny (model X.prog X.w) X.A (do bindName X.env n .none; unbindBehindTheSuite X.env n pos') (fun _ s7 => Q s7) X.xe s6 := fun {σ6 H6 Q} S6 hq => gone_ok (S6.unsuite ok) hN hi hln hq
          cases f with
          | ret u =>
            obtain ⟨v6, σ6, H6, S6, r6, q6⟩ := hsp
            exact off S6 fun s7 J7 => ⟨_, _, _, J7, r6, q6⟩
          | next =>
            obtain ⟨σ6, H6, S6, q6⟩ := hsp
            exact off S6 fun s7 J7 => ⟨_, _, J7, q6⟩
          | brk =>
            obtain ⟨σ6, H6, S6, q6⟩ := hsp
            exact off S6 fun s7 J7 => ⟨_, _, J7, q6⟩
          | cont =>
            obtain ⟨σ6, H6, S6, q6⟩ := hsp
            exact off S6 fun s7 J7 => ⟨_, _, J7, q6⟩
        | false =>
          show wpAny _ X.A (handleBy (.ref a) X.env hds2) _ _ _
          exact ih (hno rfl)
    exact go hh wish
  · cases f with
    | next =>
      obtain ⟨σ', H', J', q⟩ := hsp
      exact wpAny_execs_nil ⟨σ', H', J'.ofTry ok, q⟩
    | brk =>
      obtain ⟨σ', H', J', q⟩ := hsp
      exact ⟨σ', H', J'.ofTry ok, q⟩
    | cont =>
      obtain ⟨σ', H', J', q⟩ := hsp
      exact ⟨σ', H', J'.ofTry ok, q⟩
    | ret u =>
      obtain ⟨v, σ', H', J', r, q⟩ := hsp
      exact ⟨v, σ', H', J'.ofTry ok, r, q⟩
end
end Fw
set_option Elab.async false
set_option linter.all false
set_option maxRecDepth 100000
/-! FwH: the head: what the top has written, by one Bool of one's own and the defs; a law's end. -/
namespace Fw
open PySem PySem.Spec PyProof.Rows L2
abbrev AlE : Type := Bool × List He.FnW
def obsE (ex : PySem.W.Frag → Bool) (fn : List He.DefD) (K : PySem.W.Frag) : AlE := (ex K && fn.all fun d => d.ok K, fn.map fun d => He.fnW K d.at_)
def valE (fn : List He.DefD) : AlE := (true, fn.map He.DefD.val)
def SaysE (ex : PySem.W.Frag → Bool) (fn : List He.DefD) (K : PySem.W.Frag) : Prop := obsE ex fn K = valE fn
def obsEG (n : Nat) (ex : PySem.W.Frag → Bool) (fn : List He.DefD) (g : Addr → Option Obj) : AlE := obsE ex fn (He.frG g (He.asD g n))
def hookE (n : Nat) (ex : PySem.W.Frag → Bool) (fn : List He.DefD) : PySem.W.Hook where
  α := AlE
  obs := fun s => obsEG n ex fn s.heap.get?
  val := fun _ => valE fn
  says := fun _ h => ∃ K : PySem.W.Frag, K.In h ∧ SaysE ex fn K
  of := fun _ _ e => ⟨_, He.frG_in, e⟩
  keeps := fun _ _ _ ⟨K, hK, c⟩ k => ⟨K, PySem.W.Frag.In.keeps hK k, c⟩
theorem obsEG_eq {n : Nat} {ex : PySem.W.Frag → Bool} {fn : List He.DefD} {g : Addr → Option Obj} {s : Shared} (h : ∀ a, g a = s.heap.get? a) : obsEG n ex fn g = (hookE n ex fn).obs s := by
  have e : g = s.heap.get? := funext h
  rw [e] <;> rfl
section
variable {ex : PySem.W.Frag → Bool} {fn : List He.DefD} {K : PySem.W.Frag}
theorem SaysE.isx (c : SaysE ex fn K) : ex K = true := (He.ba (show (ex K && fn.all fun d => d.ok K) = true from congrArg (fun z : AlE => z.1) c)).1
theorem SaysE.def_ (c : SaysE ex fn K) {d : He.DefD} (h : d ∈ fn) : ∃ fd, FunD K d.name d.qual d.params d.body d.scope (d.dvs K) (d.kws K) (He.fAd K d.at_) fd := by
  obtain ⟨i, hi, e⟩ := List.mem_iff_getElem.mp h
  have e0 : fn[i]? = some d := by rw [List.getElem?_eq_getElem hi, e]
  have c2 := (He.ba (show (ex K && fn.all fun d => d.ok K) = true from congrArg (fun z : AlE => z.1) c)).2
  have e1 : fn.map (fun d => He.fnW K d.at_) = fn.map He.DefD.val := congrArg (fun z : AlE => z.2) c
  have e2 : (fn.map fun d => He.fnW K d.at_)[i]? = (fn.map He.DefD.val)[i]? := by rw [e1]
  rw [List.getElem?_map, List.getElem?_map, e0] at e2
  exact He.DefD.funD (Option.some.inj e2) (List.all_eq_true.mp c2 d h)
/-- a def of the module; a method -/
def dfn (x : Str) (st : Stmt) : He.DefD := ⟨(x, none), x, x, defArgs st, defBody st, defScope st, [], []⟩
def dmt (x m q : Str) (st : Stmt) : He.DefD := ⟨(x, some m), m, q, defArgs st, defBody st, defScope st, [], []⟩
theorem fun_of {x qual : Str} {st : Stmt} {f : Addr} {fd : FuncData} (F : FunD K x qual (defArgs st) (defBody st) (defScope st) [] [] f fd) : L2.Fun K x qual st f fd := by
  obtain ⟨oc, od, dV, kV, doc, pm, an, cdv, ct, osl, rfl, lk, hcd, hD, _⟩ := F.ex
  rcases hD with ⟨_, rfl⟩ | ⟨n, _⟩
  · exact ⟨⟨oc, od, kV, doc, pm, an, cdv, ct, osl, rfl, lk, hcd⟩, F.kp⟩
  · exact absurd rfl n
theorem SaysE.fnc (c : SaysE ex fn K) {x : Str} {st : Stmt} (h : dfn x st ∈ fn) : ∃ fd, L2.Fun K x x st (He.ga K x) fd := by
  obtain ⟨fd, F⟩ := c.def_ h
  exact ⟨fd, fun_of F⟩
theorem SaysE.mt (c : SaysE ex fn K) {x m q : Str} {st : Stmt} (h : dmt x m q st ∈ fn) : ∃ fd, L2.Fun K m q st (He.ma K (He.ga K x) m) fd := by
  obtain ⟨fd, F⟩ := c.def_ h
  exact ⟨fd, fun_of F⟩
end

/-! ### a law's end -/
theorem walkGE {l : PySem.W.OpenLaw} {n k : Nat} {q : Program} {loose : List Str} {XP : (Str → Option Value) → Heap → Prop} {YP : World → Heap → Prop} {d : DefRec} {x : Str} {m : List D → Option (D × D)}
    (hn : l.most = some n) (hn2 : n ≤ sizeLine) (hdf : d.params.defaults = []) (hr : Room k callerA)
    (F : ∀ (w : World) (mg : Str → Option Value) (fa : Addr) (h : Heap), YP w h → h.Ns mainGlobals mg → mg d.name = some (.ref fa) →
      ∃ (K : PySem.W.Frag) (fd : FuncData) (m : List D → Option (D × D)), K.In h ∧ noLst K = true ∧ (∀ (s : Shared) (u : Value), BindsTo s fd ⟨[u], []⟩ [(x, u)]) ∧ (∀ ns : List Int, ns.length ≤ n → ∃ z, m [.list (ns.map .int)] = some (.bool true, z)) ∧
        ∀ base : Heap, K.In base → base.Ns mainGlobals mg → FnG l.prog w K mg base CX0 k fa fd [x] (spD 1 false m)) :
    PySem.W.WalkO q loose XP YP l.row.toRowW d [] (fun f vs => PySem.call f vs) := by
  refine Att.attach_call hn hdf fun w s₀ s₁ mg mb fa o pm cd doc a vs ns G Y ho hd hcd hmg hobj hints hlen hg => ?_
  obtain ⟨K, fd, m, KX, hK, hb, hm, hF⟩ := F w mg fa _ Y G.T.g hmg
  have rv := vals_ints hints
  have lenV := hints.length
  have hka : K.lookup a = none := by
    cases e : K.lookup a with
    | none => rfl
    | some o' =>
      exfalso
      have e1 := KX a o' e
      rw [hobj] at e1
      cases e1
      exact noLst_of hK e rfl
  let H : Hp := fun b => if b = a then some (.frz { cls := .type "list", data := .seq vs.toArray } (.lst (ns.map V.int))) else none
  have hHa : H a = some (.frz { cls := .type "list", data := .seq vs.toArray } (.lst (ns.map V.int))) := if_pos rfl
  have hHb : ∀ b, b ≠ a → H b = none := fun b hb => if_neg hb
  have hok : HOk l.prog w H s₁.heap := fun b u z => by
    by_cases hb : b = a
    · subst hb
      rw [hHa] at z
      cases z
      exact ⟨hobj, by rw [List.length_map]; exact Nat.le_trans hlen hn2, vs, _, rv, hobj⟩
    · rw [hHb b hb] at z; cases z
  have base_of : ∀ {b : Addr} {o : Obj}, s₁.heap.get? b = some o → H b = none → (hidT s₁.heap H).get? b = some o := fun e n => hidT_get e n
  have noA : ∀ {b : Addr} {o : Obj} {es : Array DictEntry} {ep : Nat}, s₁.heap.get? b = some o → o.data = .dict es ep → H b = none := fun {b o es ep} e d => by
    by_cases hb : b = a
    · subst hb
      rw [hobj] at e; cases e
      have d' : Data.seq vs.toArray _ = Data.dict es ep := d
      cases d'
    · exact hHb b hb
  have nsK : ∀ {b : Addr} {m : Str → Option Value}, s₁.heap.Ns b m → (hidT s₁.heap H).Ns b m := fun {b m} ⟨o, es, ep, e, d, r⟩ => ⟨o, es, ep, base_of e (noA e d), d, r⟩
  have hKb : K.In (hidT s₁.heap H) := fun b o e => base_of (KX b o e) (hHb b fun z => by rw [z, hka] at e; cases e)
  have hM : Mod K mg (hidT s₁.heap H) := ⟨hKb, nsK G.T.g, ⟨mb, nsK G.T.b, G.T.builtins⟩, let ⟨mc, h1, h2⟩ := G.T.nolimit; ⟨mc, nsK h1, h2⟩⟩
  have e0 : Env0 l.prog w K mg (hidT s₁.heap H) callerA [] s₁ H := ⟨rfl, hM, fun b o e => of_hidT e, Nat.le_of_eq (hidT_size _ _), trivial, fun b hb => absurd (show b ∈ ([] : List Addr) from hb) (by simp), hok, .of_eq hg⟩
  obtain ⟨z, hz⟩ := hm ns hlen
  have hv : ∀ ns : List Int, Vas H (fun _ => False) (ns.map V.int) (ns.map PyData.int) := fun ns => by
    induction ns with
    | nil => exact .nil
    | cons i ns ih => exact .cons (.int i) ih
  have hsp : spD 1 false m [.ref a] H (fun v H' => v = .bl true ∧ H' a = H a) fun _ _ _ => False :=
    ⟨fun _ => False, [.list (ns.map PyData.int)], .bool true, z, trivial, rfl, fun _ h => h.elim, hz, .cons (.lst (.inr ⟨_, hHa⟩) (fun h => h) (hv ns)) .nil, fun v H' s r => ⟨by
      have r' : Va H' (fun _ => False) v (.bool true) := r
      cases r'
      rfl, by rw [hHa]; exact s _ _ hHa⟩⟩
  refine codeAny_mono ((hF _ hKb (nsK G.T.g)).run callerA [] s₁ H ⟨[.ref a], []⟩ [.ref a] [.ref a] _ _ rfl hr e0 (hb s₁ (.ref a)) (.cons rfl .nil) hsp) fun r s' h => ?_
  cases r with
  | error e => exact False.elim h
  | ok fl =>
    cases fl with
    | next => exact False.elim h
    | brk => exact False.elim h
    | cont => exact False.elim h
    | ret u =>
      obtain ⟨v, H', os, bare, un, hok', r', q, q2⟩ := h
      subst q
      obtain rfl : u = Value.bool true := r'
      refine ⟨rfl, OldK.of_keep fun b o e => ?_, os, bare⟩
      by_cases hb : b = a
      · subst hb
        rw [hHa] at q2
        obtain ⟨e1, _⟩ := hok b _ hHa
        obtain ⟨e2, _⟩ := hok' b _ q2
        rw [e] at e1; cases e1
        exact e2
      · exact un.keep b o e (hHb b hb) (by intro z; exact absurd (show b ∈ ([] : List Addr) from z) (by simp)) (by simp)
end Fw
set_option Elab.async false
set_option linter.all false
set_option maxRecDepth 100000
/-! FwK: own exception classes, by one Bool. -/
namespace Fw
open PySem PySem.Spec PyProof.Rows L2
section
variable {K : PySem.W.Frag} {C : Addr}
def exB (K : PySem.W.Frag) (C : Addr) : Bool :=
  He.eqO (PySem.W.findIn K (.ref C) "__getattribute__") (some (some (.builtin "BaseException.__getattribute__"))) &&
  (He.eqO (PySem.W.findIn K (.ref C) "__getattr__") (some none) &&
  (decide (PySem.W.subIn K (.ref C) (.type "BaseException") = some true) &&
  (PySem.W.hasDictIn K C &&
  (He.eqO (PySem.W.findIn K (.ref C) "__class__") (some (some (.builtin "object.__class__"))) &&
  (He.eqO (PySem.W.specialIn K (.builtin "object.__class__") "__get__") (some (some (.builtin "getset_descriptor.__get__"))) &&
  (decide (PySem.W.takesIn K (.builtin "object.__class__") = some true) &&
  (decide (PySem.W.mroIn K C (.type "object") = some true) &&
  (decide (PySem.W.typeIn K (.ref C) = some (.type "type")) && PySem.W.keepIn K (.ref C)))))))))
theorem exB_ok (h : exB K C = true) : ExcC K C ∧ PySem.W.typeIn K (.ref C) = some (.type "type") ∧ PySem.W.keepIn K (.ref C) = true := by
  obtain ⟨h1, h⟩ := He.ba h
  obtain ⟨h2, h⟩ := He.ba h
  obtain ⟨h3, h⟩ := He.ba h
  obtain ⟨h4, h⟩ := He.ba h
  obtain ⟨h5, h⟩ := He.ba h
  obtain ⟨h6, h⟩ := He.ba h
  obtain ⟨h7, h⟩ := He.ba h
  obtain ⟨h8, h⟩ := He.ba h
  obtain ⟨h9, h10⟩ := He.ba h
  exact ⟨⟨He.eqO_ok h1, He.eqO_ok h2, of_decide_eq_true h3, h4, He.eqO_ok h5, He.eqO_ok h6, of_decide_eq_true h7, of_decide_eq_true h8⟩, of_decide_eq_true h9, h10⟩
theorem fld_of {f : Str} (h : ExcC K C) (hn : PySem.W.findIn K (.ref C) f = some none) : FldK K C f := ⟨h.hg, h.hk, hn, h.hs, h.hd⟩
/-- an own class of exceptions whose objects have a dict -/
def oxB (K : PySem.W.Frag) (C : Addr) : Bool :=
  He.eqO (PySem.W.findIn K (.ref C) "__setattr__") (some (some (.builtin "object.__setattr__"))) &&
  match K.lookup C with
  | some ⟨.type "type", _, .cls cd, sl⟩ => (match cd.mro, sl.toList with
    | .ref C' :: bm, [_, _, _, _, some (.builtin n), _] => C' == C && n == "ValueError.__new__" && !cd.hasDel && cd.hasDict && PySem.HandSPX.refsVE bm
    | _, _ => false)
  | _ => false
theorem oxB_ok (e : exB K C = true) (h : oxB K C = true) : OexC K C := by
  obtain ⟨ec, ty, kp⟩ := exB_ok e
  obtain ⟨h1, q⟩ := He.ba h
  refine ⟨?_, He.eqO_ok h1, ec.hs, ty, kp⟩
  split at q
  · rename_i dd cd sl ho
    split at q
    · rename_i C' bm k0 k1 k2 k3 n k5 hm hs
      simp only [Bool.and_eq_true, beq_iff_eq, Bool.not_eq_true'] at q
      obtain ⟨⟨⟨⟨rfl, rfl⟩, hdel⟩, hd⟩, ht⟩ := q
      obtain ⟨nm, bs, mro, ns, qn, hd', sn, sub, ab, col, del⟩ := cd
      dsimp only at hm hdel hd
      subst hm hdel hd
      have hsl : sl = #[k0, k1, k2, k3, some (.builtin "ValueError.__new__"), k5] := by
        obtain ⟨l⟩ := sl
        simp only at hs
        rw [hs]
      subst hsl
      exact ⟨_, _, _, _, _, _, _, _, _, _, _, _, _, _, _, ho, ht⟩
    · cases q
  · cases q
def inB (K : PySem.W.Frag) (C : Addr) : Bool :=
  He.eqO (PySem.W.findIn K (.ref C) "__init__") (some (some (.ref (He.ma K C "__init__")))) && decide (PySem.W.typeIn K (.ref (He.ma K C "__init__")) = some (.type "function"))
theorem inB_ok (h : inB K C = true) : PySem.W.findIn K (.ref C) "__init__" = some (some (.ref (He.ma K C "__init__"))) ∧ PySem.W.typeIn K (.ref (He.ma K C "__init__")) = some (.type "function") := by
  obtain ⟨h1, h2⟩ := He.ba h
  exact ⟨He.eqO_ok h1, of_decide_eq_true h2⟩
end
/-- self.f = f -/
structure InitS (f : Str) (st : Stmt) : Prop where
  S : FnScope ["self", f] ["self", f] (defScope st)
  b : ∃ p1 p2 p3 p4, defBody st = [.Assign [.Attribute (.Name "self" p1) f p2] (.Name f p3) p4] ∧ ∀ env, swapsWith (.Name f p3) (some (.Attribute (.Name "self" p1) f p2)) p4.line env = pure false
  v1 : (defScope st).names.lookup ("self" : Str) = some .local
  v2 : (defScope st).names.lookup f = some .local
  d : (f == ("__debug__" : Str)) = false
  cd : (f == ("__classdict__" : Str)) = false
  kb : ∀ (q : Str) (kV doc pm : Value) (an : Option Addr) (cdv ct a b : Value), bindArgs (PySem.W.fnOf "__init__" q (defArgs st) (defBody st) (defScope st) .none kV doc pm an cdv ct) ⟨[a], [(f, b)]⟩ = pure [(("self" : Str), a), (f, b)]
  kb2 : ∀ (q : Str) (kV doc pm : Value) (an : Option Addr) (cdv ct a b : Value), bindArgs (PySem.W.fnOf "__init__" q (defArgs st) (defBody st) (defScope st) .none kV doc pm an cdv ct) ⟨[a, b], []⟩ = pure [(("self" : Str), a), (f, b)]
theorem InitS.bo {K : PySem.W.Frag} {f q : Str} {st : Stmt} {fI : Addr} {fd : FuncData} (I : InitS f st) (F : L2.Fun K "__init__" q st fI fd) : FwX.KBo K fd ["self", f] [f] := ⟨fun s a ws _ hl => by
  obtain ⟨oc, od, kV, doc, pm, an, cdv, ct, osl, rfl, lk, hcd⟩ := F.ex
  match ws, hl with
  | [b], _ => exact .of_eq (I.kb q kV doc pm an cdv ct a b)⟩
theorem InitS.bp {K : PySem.W.Frag} {f q : Str} {st : Stmt} {fI : Addr} {fd : FuncData} (I : InitS f st) (F : L2.Fun K "__init__" q st fI fd) : Binds K fd ["self", f] [] := F.binds fun kV doc pm an cdv ct us hl => match us, hl with | [a, b], _ => I.kb2 q kV doc pm an cdv ct a b
theorem mkE_of {c : Ctx} {x q : Str} {f : Str} {st : Stmt} {C fI : Addr} {fd : FuncData} (I : InitS f st) (F : L2.Fun c.K "__init__" q st fI fd) (e : exB c.K C = true) (o : oxB c.K C = true) (hn : PySem.W.findIn c.K (.ref C) f = some none)
    (hi : PySem.W.findIn c.K (.ref C) "__init__" = some (some (.ref fI))) (ht : PySem.W.typeIn c.K (.ref fI) = some (.type "function")) (hk : 2 ≤ c.k) (hm : c.mg x = some (.ref C)) : MkE c x C f := by
  obtain ⟨p1, p2, p3, p4, hb, hs⟩ := I.b
  exact ⟨fI, fd, 1, oxB_ok e o, hi, ht, init_ok (oxB_ok e o) hn F I.S hb I.v1 I.v2 I.d I.cd hs, hk, hm, I.bp F, I.bo F⟩
theorem calG {c : Ctx} {x : Str} {f : Addr} {fd : FuncData} {ps : List Str} {j : Nat} {sp : Sp} (h : FnG c.P c.w c.K c.mg c.base CX0 j f fd ps sp) (hj : j ≤ c.k) (hm : c.mg x = some (.ref f)) (kp : PySem.W.keepIn c.K (.ref f) = true) (b : Binds c.K fd ps []) : Cal c x sp := ⟨f, fd, ps, j, h, hj, hm, kp, b⟩
theorem fnG_none {P : Program} {w : World} {K : PySem.W.Frag} {mg : Str → Option Value} {base : Heap} {k : Nat} {f : Addr} {fd : FuncData} {ps : List Str} {n : Nat} {nw : Bool} : FnG P w K mg base CX0 k f fd ps (spP n nw fun _ => none) :=
  ⟨fun vs H Q E h => (by obtain ⟨_, _, _, _, _, _, _, _, _, _, _, _, h, _⟩ := h; cases h), fun A outer s H args us vs Q E _ _ _ _ _ h => (by obtain ⟨_, _, _, _, _, _, _, _, _, _, _, _, h, _⟩ := h; cases h)⟩
end Fw
set_option Elab.async false
set_option linter.all false
set_option maxRecDepth 100000
set_option maxHeartbeats 4000000
namespace Fw
open PySem PySem.Spec PyProof.Rows L2
def topS (i : Nat) : Stmt := PySem.Challenge.pw_weylweights_k01_errors_each_of_its_own.main.body.getD i (.Pass ⟨0, 0, 0, 0⟩)
def cs (C : Nat → Addr) : List Addr := (List.range 24).map C
section
variable {P : Program} {w : World} {K : PySem.W.Frag} {mg : Str → Option Value} {base : Heap} {C : Nat → Addr}
abbrev s__law_pot : Stmt := topS 26
theorem sc__law_pot : FnScope ["script", "turn", "stirred", "each", "cell", "digits"] ["script", "turn"] (defScope s__law_pot) := ⟨rfl, rfl, rfl, by decide +kernel, rfl, by decide +kernel, by decide +kernel⟩
def b__law_pot : SM :=
  (sSeq (sSet 2 (eB dAdd (eC (.int 733001)) (eB dMul (eC (.int 4409)) (eV 1))))
    (sSeq (sFor (aS (eS dCutL (eV 0) oN (oS (eC (.int 11))))) (gN 3) (sSet 2 (eB dMod (eF (f1 dInt) (aC (eB dAdd (eB dAdd (eB dMul (eV 2) (eC (.int 50021))) (eB dMul (eB dMod (eF (f1 dInt) (aC (eV 3) aN)) (eC (.int 1999999973))) (eC (.int 3)))) (eC (.int 17))) aN)) (eC (.int 2147483477)))))
    (sSeq (sSet 4 (eI (bV (eB dLt (eV 1) (eF (f1 dLen) (aC (eV 0) aN)))) (eF (f1 dInt) (aC (eB dIx (eV 0) (eV 1)) aN)) (eC (.int 0))))
    (sSeq (sSet 5 (eI (bV (eB dGe (eF (f1 dAbs) (aC (eV 4) aN)) (eB dPow (eC (.int 10)) (eC (.int 16))))) (eF (f1 dAbs) (aC (eV 4) aN)) (eC (.int 0))))
    (sRet (eF dLst (aC (eV 5) (aC (eB dMod (eF (f1 dInt) (aC (eB dAdd (eB dAdd (eB dMul (eV 2) (eC (.int 30011))) (eB dMod (eF (f1 dInt) (aC (eV 4) aN)) (eC (.int 1999999973)))) (eC (.int 7))) aN)) (eC (.int 2147483477))) (aC (eC (.int 0)) aN)))))))))
def d__law_pot : List D → Option (D × D) := runD 2 6 (b__law_pot)
theorem nonx__law_pot : true = true → ∀ ds : List D, ∀ e, b__law_pot (ds.map some ++ List.replicate (6 - 2) none) ≠ some (.nx, e) := by
  intro _ ds e
  exact (show NoNx b__law_pot from by unfold b__law_pot; repeat (first | exact nonx_ret | refine nonx_seq ?_ | refine nonx_if ?_ ?_)) _ _
theorem ok__law_pot {k : Nat} {f : Addr} {fd : FuncData}  (F : L2.Fun K "_law_pot" "_law_pot" s__law_pot f fd)
    (m_abs : mg ("abs" : Str) = none) (m_int : mg ("int" : Str) = none) (m_len : mg ("len" : Str) = none) :
    FnG P w K mg base CX0 (k + 1) f fd ["script", "turn"] (spD 2 true (d__law_pot)) :=
  def_ok F sc__law_pot (os := []) (new := true) (show RSs (ctxD P w K mg base ["script", "turn", "stirred", "each", "cell", "digits"] s__law_pot k none []) true [] (defBody s__law_pot) (b__law_pot) from
    (rss_cons (rs_set (i := 2) rfl (by first | exact .inl rfl | exact .inr ⟨rfl, rfl⟩) (by first | decide | (dsimp only [ctxD, ctxC]; decide) | (intro h; dsimp only [ctxD, ctxC] at h; revert h; decide) | (intro i hi; dsimp only [ctxD, ctxC] at *; revert i hi; decide)) (fun i h => nomatch h) (re_add (RE.wk re_int) (RE.wk (re_mul (RE.wk re_int) (RE.wk (re_v (i := 1) rfl (by first | exact .inl rfl | exact .inr (.inl rfl) | exact .inr (.inr rfl)) (by first | decide | (dsimp only [ctxD, ctxC]; decide) | (intro h; dsimp only [ctxD, ctxC] at h; revert h; decide) | (intro i hi; dsimp only [ctxD, ctxC] at *; revert i hi; decide))))))))
    (rss_cons (rs_for (ts := [3]) (fb' := []) (ri_seq (RN.re (rn_cut (RE.wk (re_v (i := 0) rfl (by first | exact .inl rfl | exact .inr (.inl rfl) | exact .inr (.inr rfl)) (by first | decide | (dsimp only [ctxD, ctxC]; decide) | (intro h; dsimp only [ctxD, ctxC] at h; revert h; decide) | (intro i hi; dsimp only [ctxD, ctxC] at *; revert i hi; decide)))) ro_n (ro_s re_int)))) (rg_n (i := 3) rfl (by first | exact .inl rfl | exact .inr ⟨rfl, rfl⟩) (by first | decide | (dsimp only [ctxD, ctxC]; decide) | (intro h; dsimp only [ctxD, ctxC] at h; revert h; decide) | (intro i hi; dsimp only [ctxD, ctxC] at *; revert i hi; decide))) (rss_one (rs_set (i := 2) rfl (by first | exact .inl rfl | exact .inr ⟨rfl, rfl⟩) (by first | decide | (dsimp only [ctxD, ctxC]; decide) | (intro h; dsimp only [ctxD, ctxC] at h; revert h; decide) | (intro i hi; dsimp only [ctxD, ctxC] at *; revert i hi; decide)) (fun i h => nomatch h) (re_mod (RE.wk (re_toInt m_int (ra_cons (RE.wk (re_add (RE.wk (re_add (RE.wk (re_mul (RE.wk (re_v (i := 2) rfl (by first | exact .inl rfl | exact .inr (.inl rfl) | exact .inr (.inr rfl)) (by first | decide | (dsimp only [ctxD, ctxC]; decide) | (intro h; dsimp only [ctxD, ctxC] at h; revert h; decide) | (intro i hi; dsimp only [ctxD, ctxC] at *; revert i hi; decide)))) (RE.wk re_int))) (RE.wk (re_mul (RE.wk (re_mod (RE.wk (re_toInt m_int (ra_cons (RE.wk (re_v (i := 3) rfl (by first | exact .inl rfl | exact .inr (.inl rfl) | exact .inr (.inr rfl)) (by first | decide | (dsimp only [ctxD, ctxC]; decide) | (intro h; dsimp only [ctxD, ctxC] at h; revert h; decide) | (intro i hi; dsimp only [ctxD, ctxC] at *; revert i hi; decide)))) ra_nil))) (RE.wk re_int))) (RE.wk re_int))))) (RE.wk re_int))) ra_nil))) (RE.wk re_int)))) (by first | decide | (dsimp only [ctxD, ctxC]; decide) | (intro h; dsimp only [ctxD, ctxC] at h; revert h; decide) | (intro i hi; dsimp only [ctxD, ctxC] at *; revert i hi; decide)) (fun i h => nomatch h))
    (rss_cons (rs_set (i := 4) rfl (by first | exact .inl rfl | exact .inr ⟨rfl, rfl⟩) (by first | decide | (dsimp only [ctxD, ctxC]; decide) | (intro h; dsimp only [ctxD, ctxC] at h; revert h; decide) | (intro i hi; dsimp only [ctxD, ctxC] at *; revert i hi; decide)) (fun i h => nomatch h) (re_if (rt_lt (RE.wk (re_v (i := 1) rfl (by first | exact .inl rfl | exact .inr (.inl rfl) | exact .inr (.inr rfl)) (by first | decide | (dsimp only [ctxD, ctxC]; decide) | (intro h; dsimp only [ctxD, ctxC] at h; revert h; decide) | (intro i hi; dsimp only [ctxD, ctxC] at *; revert i hi; decide)))) (RE.wk (re_len m_len (ra_cons (RE.wk (re_v (i := 0) rfl (by first | exact .inl rfl | exact .inr (.inl rfl) | exact .inr (.inr rfl)) (by first | decide | (dsimp only [ctxD, ctxC]; decide) | (intro h; dsimp only [ctxD, ctxC] at h; revert h; decide) | (intro i hi; dsimp only [ctxD, ctxC] at *; revert i hi; decide)))) ra_nil)))) (re_toInt m_int (ra_cons (RE.wk (re_ix (RE.wk (re_v (i := 0) rfl (by first | exact .inl rfl | exact .inr (.inl rfl) | exact .inr (.inr rfl)) (by first | decide | (dsimp only [ctxD, ctxC]; decide) | (intro h; dsimp only [ctxD, ctxC] at h; revert h; decide) | (intro i hi; dsimp only [ctxD, ctxC] at *; revert i hi; decide)))) (re_v (i := 1) rfl (by first | exact .inl rfl | exact .inr (.inl rfl) | exact .inr (.inr rfl)) (by first | decide | (dsimp only [ctxD, ctxC]; decide) | (intro h; dsimp only [ctxD, ctxC] at h; revert h; decide) | (intro i hi; dsimp only [ctxD, ctxC] at *; revert i hi; decide))))) ra_nil)) re_int))
    (rss_cons (rs_set (i := 5) rfl (by first | exact .inl rfl | exact .inr ⟨rfl, rfl⟩) (by first | decide | (dsimp only [ctxD, ctxC]; decide) | (intro h; dsimp only [ctxD, ctxC] at h; revert h; decide) | (intro i hi; dsimp only [ctxD, ctxC] at *; revert i hi; decide)) (fun i h => nomatch h) (re_if (rt_ge (RE.wk (re_abs m_abs (ra_cons (RE.wk (re_v (i := 4) rfl (by first | exact .inl rfl | exact .inr (.inl rfl) | exact .inr (.inr rfl)) (by first | decide | (dsimp only [ctxD, ctxC]; decide) | (intro h; dsimp only [ctxD, ctxC] at h; revert h; decide) | (intro i hi; dsimp only [ctxD, ctxC] at *; revert i hi; decide)))) ra_nil))) (RE.wk (re_pow (RE.wk re_int) (RE.wk re_int)))) (re_abs m_abs (ra_cons (RE.wk (re_v (i := 4) rfl (by first | exact .inl rfl | exact .inr (.inl rfl) | exact .inr (.inr rfl)) (by first | decide | (dsimp only [ctxD, ctxC]; decide) | (intro h; dsimp only [ctxD, ctxC] at h; revert h; decide) | (intro i hi; dsimp only [ctxD, ctxC] at *; revert i hi; decide)))) ra_nil)) re_int))
    (rss_one (rs_retNew (rn_lst (ras_cons (re_v (i := 5) rfl (by first | exact .inl rfl | exact .inr (.inl rfl) | exact .inr (.inr rfl)) (by first | decide | (dsimp only [ctxD, ctxC]; decide) | (intro h; dsimp only [ctxD, ctxC] at h; revert h; decide) | (intro i hi; dsimp only [ctxD, ctxC] at *; revert i hi; decide))) (ras_cons (re_mod (RE.wk (re_toInt m_int (ra_cons (RE.wk (re_add (RE.wk (re_add (RE.wk (re_mul (RE.wk (re_v (i := 2) rfl (by first | exact .inl rfl | exact .inr (.inl rfl) | exact .inr (.inr rfl)) (by first | decide | (dsimp only [ctxD, ctxC]; decide) | (intro h; dsimp only [ctxD, ctxC] at h; revert h; decide) | (intro i hi; dsimp only [ctxD, ctxC] at *; revert i hi; decide)))) (RE.wk re_int))) (RE.wk (re_mod (RE.wk (re_toInt m_int (ra_cons (RE.wk (re_v (i := 4) rfl (by first | exact .inl rfl | exact .inr (.inl rfl) | exact .inr (.inr rfl)) (by first | decide | (dsimp only [ctxD, ctxC]; decide) | (intro h; dsimp only [ctxD, ctxC] at h; revert h; decide) | (intro i hi; dsimp only [ctxD, ctxC] at *; revert i hi; decide)))) ra_nil))) (RE.wk re_int))))) (RE.wk re_int))) ra_nil))) (RE.wk re_int)) (ras_cons re_int ras_nil))))))))))) (by first | decide | (dsimp only [ctxD, ctxC]; decide) | (intro h; dsimp only [ctxD, ctxC] at h; revert h; decide) | (intro i hi; dsimp only [ctxD, ctxC] at *; revert i hi; decide)) nonx__law_pot

abbrev s__law_draw : Stmt := topS 27
theorem sc__law_draw : FnScope ["pot", "few", "digit"] ["pot", "few"] (defScope s__law_draw) := ⟨rfl, rfl, rfl, by decide +kernel, rfl, by decide +kernel, by decide +kernel⟩
def b__law_draw : SM :=
  (sSeq (sIf (bV (eB dGt (eB dIx (eV 0) (eC (.int 0))) (eC (.int 0)))) (sSeq (sAsg (eF (f2 dDivmod) (aC (eB dIx (eV 0) (eC (.int 0))) (aC (eV 1) aN))) (gT [(gIx 0 (eC (.int 0))), (gN 2)]))
    (sRet (eV 2))) sNx)
    (sSeq (sPut 0 (eB dAdd (eB dIx (eV 0) (eC (.int 2))) (eC (.int 1))) (eC (.int 2)))
    (sSeq (sPut 0 (eB dMod (eF (f1 dInt) (aC (eB dAdd (eB dAdd (eB dMul (eB dIx (eV 0) (eC (.int 1))) (eB dAdd (eC (.int 44021)) (eB dMul (eC (.int 6)) (eB dIx (eV 0) (eC (.int 2)))))) (eC (.int 60029))) (eB dIx (eV 0) (eC (.int 2)))) aN)) (eC (.int 2147483477))) (eC (.int 1)))
    (sRet (eB dMod (eF (f1 dInt) (aC (eB dDiv (eB dIx (eV 0) (eC (.int 1))) (eC (.int 61))) aN)) (eV 1))))))
def d__law_draw : List D → Option (D × D) := runP 2 3 (b__law_draw)
theorem ok__law_draw {k : Nat} {f : Addr} {fd : FuncData}  (F : L2.Fun K "_law_draw" "_law_draw" s__law_draw f fd)
    (m_divmod : mg ("divmod" : Str) = none) (m_int : mg ("int" : Str) = none) :
    FnG P w K mg base CX0 (k + 1) f fd ["pot", "few"] (spP 2 false (d__law_draw)) :=
  defP_ok F sc__law_draw (os := []) (new := false) (show RSs (ctxD P w K mg base ["pot", "few", "digit"] s__law_draw k (some 0) [0]) false [] (defBody s__law_draw) (b__law_draw) from
    (rss_cons (rs_if (rt_gt (RE.wk (re_ixP (i := 0) rfl (by first | exact .inl rfl | exact .inr (.inl rfl) | exact .inr (.inr rfl)))) (RE.wk re_int)) (rss_cons (rs_asg2 (fun i h => by cases h; decide) (re_divmod m_divmod (ra_cons (RE.wk (re_ixP (i := 0) rfl (by first | exact .inl rfl | exact .inr (.inl rfl) | exact .inr (.inr rfl)))) (ra_cons (RE.wk (re_v (i := 1) rfl (by first | exact .inl rfl | exact .inr (.inl rfl) | exact .inr (.inr rfl)) (by first | decide | (dsimp only [ctxD, ctxC]; decide) | (intro h; dsimp only [ctxD, ctxC] at h; revert h; decide) | (intro i hi; dsimp only [ctxD, ctxC] at *; revert i hi; decide)))) ra_nil))) (rg2_t (n := 2) (rgs2_cons (rg2_ix (i := 0) rfl (by first | exact .inl rfl | exact .inr (.inl rfl) | exact .inr (.inr rfl)) (by first | decide | (dsimp only [ctxD, ctxC]; decide) | (intro h; dsimp only [ctxD, ctxC] at h; revert h; decide) | (intro i hi; dsimp only [ctxD, ctxC] at *; revert i hi; decide)) (by first | decide | (dsimp only [ctxD, ctxC]; decide) | (intro h; dsimp only [ctxD, ctxC] at h; revert h; decide) | (intro i hi; dsimp only [ctxD, ctxC] at *; revert i hi; decide)) (fun i h => by cases h; decide) re_int) (rgs2_cons (RG.two (ts := [2]) (rg_n (i := 2) rfl (by first | exact .inl rfl | exact .inr ⟨rfl, rfl⟩) (by first | decide | (dsimp only [ctxD, ctxC]; decide) | (intro h; dsimp only [ctxD, ctxC] at h; revert h; decide) | (intro i hi; dsimp only [ctxD, ctxC] at *; revert i hi; decide)))) rgs2_nil))))
    (rss_one (rs_ret (re_v (i := 2) rfl (by first | exact .inl rfl | exact .inr (.inl rfl) | exact .inr (.inr rfl)) (by first | decide | (dsimp only [ctxD, ctxC]; decide) | (intro h; dsimp only [ctxD, ctxC] at h; revert h; decide) | (intro i hi; dsimp only [ctxD, ctxC] at *; revert i hi; decide)))))) rss_nil (fun i h => by cases h; decide))
    (rss_cons (rs_put (i := 0) rfl (by first | exact .inl rfl | exact .inr (.inl rfl) | exact .inr (.inr rfl)) (by first | decide | (dsimp only [ctxD, ctxC]; decide) | (intro h; dsimp only [ctxD, ctxC] at h; revert h; decide) | (intro i hi; dsimp only [ctxD, ctxC] at *; revert i hi; decide)) (by first | decide | (dsimp only [ctxD, ctxC]; decide) | (intro h; dsimp only [ctxD, ctxC] at h; revert h; decide) | (intro i hi; dsimp only [ctxD, ctxC] at *; revert i hi; decide)) (fun i h => by cases h; decide) (re_add (RE.wk (re_ixP (i := 0) rfl (by first | exact .inl rfl | exact .inr (.inl rfl) | exact .inr (.inr rfl)))) (RE.wk re_int)) re_int)
    (rss_cons (rs_put (i := 0) rfl (by first | exact .inl rfl | exact .inr (.inl rfl) | exact .inr (.inr rfl)) (by first | decide | (dsimp only [ctxD, ctxC]; decide) | (intro h; dsimp only [ctxD, ctxC] at h; revert h; decide) | (intro i hi; dsimp only [ctxD, ctxC] at *; revert i hi; decide)) (by first | decide | (dsimp only [ctxD, ctxC]; decide) | (intro h; dsimp only [ctxD, ctxC] at h; revert h; decide) | (intro i hi; dsimp only [ctxD, ctxC] at *; revert i hi; decide)) (fun i h => by cases h; decide) (re_mod (RE.wk (re_toInt m_int (ra_cons (RE.wk (re_add (RE.wk (re_add (RE.wk (re_mul (RE.wk (re_ixP (i := 0) rfl (by first | exact .inl rfl | exact .inr (.inl rfl) | exact .inr (.inr rfl)))) (RE.wk (re_add (RE.wk re_int) (RE.wk (re_mul (RE.wk re_int) (RE.wk (re_ixP (i := 0) rfl (by first | exact .inl rfl | exact .inr (.inl rfl) | exact .inr (.inr rfl)))))))))) (RE.wk re_int))) (RE.wk (re_ixP (i := 0) rfl (by first | exact .inl rfl | exact .inr (.inl rfl) | exact .inr (.inr rfl)))))) ra_nil))) (RE.wk re_int)) re_int)
    (rss_one (rs_ret (re_mod (RE.wk (re_toInt m_int (ra_cons (RE.wk (re_div (RE.wk (re_ixP (i := 0) rfl (by first | exact .inl rfl | exact .inr (.inl rfl) | exact .inr (.inr rfl)))) (RE.wk re_int))) ra_nil))) (RE.wk (re_v (i := 1) rfl (by first | exact .inl rfl | exact .inr (.inl rfl) | exact .inr (.inr rfl)) (by first | decide | (dsimp only [ctxD, ctxC]; decide) | (intro h; dsimp only [ctxD, ctxC] at h; revert h; decide) | (intro i hi; dsimp only [ctxD, ctxC] at *; revert i hi; decide))))))))))) (by first | decide | (dsimp only [ctxD, ctxC]; decide) | (intro h; dsimp only [ctxD, ctxC] at h; revert h; decide) | (intro i hi; dsimp only [ctxD, ctxC] at *; revert i hi; decide)) (by first | decide | (dsimp only [ctxD, ctxC]; decide) | (intro h; dsimp only [ctxD, ctxC] at h; revert h; decide) | (intro i hi; dsimp only [ctxD, ctxC] at *; revert i hi; decide)) (fun h => nomatch h)

abbrev s__law_pick : Stmt := topS 28
theorem sc__law_pick : FnScope ["pot", "some"] ["pot", "some"] (defScope s__law_pick) := ⟨rfl, rfl, rfl, by decide +kernel, rfl, by decide +kernel, by decide +kernel⟩
def b__law_pick : SM :=
  (sRet (eB dIx (eV 1) (eCallP 0 yes yes d__law_draw (aC (eF (f1 dLen) (aC (eV 1) aN)) aN))))
def d__law_pick : List D → Option (D × D) := runP 2 2 (b__law_pick)
theorem ok__law_pick {k : Nat} {f : Addr} {fd : FuncData}  (F : L2.Fun K "_law_pick" "_law_pick" s__law_pick f fd)
    (cal__law_draw : Cal ⟨P, w, K, mg, base, [], defScope s__law_pick, k, fun _ => true, none, []⟩ "_law_draw" (spP 2 false d__law_draw)) (m_len : mg ("len" : Str) = none) :
    FnG P w K mg base CX0 (k + 1) f fd ["pot", "some"] (spP 2 false (d__law_pick)) :=
  defP_ok F sc__law_pick (os := []) (new := false) (show RSs (ctxD P w K mg base ["pot", "some"] s__law_pick k (some 0) [0]) false [] (defBody s__law_pick) (b__law_pick) from
    (rss_one (rs_ret (re_ix (RE.wk (re_v (i := 1) rfl (by first | exact .inl rfl | exact .inr (.inl rfl) | exact .inr (.inr rfl)) (by first | decide | (dsimp only [ctxD, ctxC]; decide) | (intro h; dsimp only [ctxD, ctxC] at h; revert h; decide) | (intro i hi; dsimp only [ctxD, ctxC] at *; revert i hi; decide)))) (re_callP (i := 0) ⟨cal__law_draw.ex⟩ rfl (by first | exact .inl rfl | exact .inr (.inl rfl) | exact .inr (.inr rfl)) rfl (ras_cons (re_len m_len (ra_cons (RE.wk (re_v (i := 1) rfl (by first | exact .inl rfl | exact .inr (.inl rfl) | exact .inr (.inr rfl)) (by first | decide | (dsimp only [ctxD, ctxC]; decide) | (intro h; dsimp only [ctxD, ctxC] at h; revert h; decide) | (intro i hi; dsimp only [ctxD, ctxC] at *; revert i hi; decide)))) ra_nil)) ras_nil) (aC_len aN_len)))))) (by first | decide | (dsimp only [ctxD, ctxC]; decide) | (intro h; dsimp only [ctxD, ctxC] at h; revert h; decide) | (intro i hi; dsimp only [ctxD, ctxC] at *; revert i hi; decide)) (by first | decide | (dsimp only [ctxD, ctxC]; decide) | (intro h; dsimp only [ctxD, ctxC] at h; revert h; decide) | (intro i hi; dsimp only [ctxD, ctxC] at *; revert i hi; decide)) (fun h => nomatch h)

abbrev s__law_odd : Stmt := topS 29
theorem sc__law_odd : FnScope ["pot", "some", "more"] ["pot"] (defScope s__law_odd) := ⟨rfl, rfl, rfl, by decide +kernel, rfl, by decide +kernel, by decide +kernel⟩
def b__law_odd : SM :=
  (sSeq (sSet 1 (eF dLst (aC (eC .none) (aC (eC (.bool true)) (aC (eC (.bool false)) (aC (eC (.int 0)) (aC (eC (.int 1)) (aC (eU dNeg (eC (.int 1))) (aC (eC (.int 2)) (aC (eB dPow (eC (.int 10)) (eC (.int 30))) (aC (eC (.str (Str.ofString ""))) (aC (eC (.str (Str.ofString "A2"))) (aC (eC (.str (Str.ofString "x"))) (aC (eF dTup aN) (aC (eF dTup (aC (eC (.int 2)) aN)) (aC (eF dTup (aC (eF dTup (aC (eC (.int 2)) aN)) aN)) (aC (eF dTup (aC (eF dTup (aC (eC (.int 2)) (aC (eC (.int 0)) aN))) (aC (eF dTup (aC (eC (.int 0)) (aC (eC (.int 2)) aN))) aN))) (aC (eF dTup (aC (eC (.int 0)) (aC (eC (.int 1)) aN))) (aC (eF dTup (aC (eC (.int 1)) (aC (eC (.int 0)) aN))) aN)))))))))))))))))))
    (sSeq (sSet 2 (eF dLst (aC (eF dLst aN) (aC (eF dLst (aC (eF dLst (aC (eC (.int 2)) aN)) aN)) (aC (eC (.dict [])) (aC (eF dTup (aC (eF dTup (aC (eC (.int 2)) (aC (eU dNeg (eC (.int 1))) aN))) (aC (eF dTup (aC (eU dNeg (eC (.int 1))) aN)) aN))) (aC (eF dTup (aC (eF dTup (aC (eC (.bool true)) aN)) aN)) (aC (eF dTup (aC (eC .none) aN)) (aC (eF dTup (aC (eC (.str (Str.ofString "0"))) aN)) (aC (eF dTup (aC (eF dTup (aC (eC (.int 1)) (aC (eC (.int 2)) aN))) (aC (eC (.int 3)) aN))) (aC (eF dTup (aC (eC (.int 0)) (aC (eC (.int 0)) aN))) (aC (eF dTup (aC (eU dNeg (eC (.int 1))) (aC (eC (.int 0)) aN))) (aC (eF dTup (aC (eC (.int 1)) (aC (eC (.int 1)) (aC (eC (.int 1)) aN)))) (aC (eF dTup (aC (eC (.bool true)) (aC (eC (.int 0)) aN))) aN))))))))))))))
    (sRet (eCallP 0 yes yes d__law_pick (aC (eB dCat (eV 1) (eV 2)) aN)))))
def d__law_odd : List D → Option (D × D) := runP 1 3 (b__law_odd)
theorem ok__law_odd {k : Nat} {f : Addr} {fd : FuncData}  (F : L2.Fun K "_law_odd" "_law_odd" s__law_odd f fd)
    (cal__law_pick : Cal ⟨P, w, K, mg, base, [], defScope s__law_odd, k, fun _ => true, none, []⟩ "_law_pick" (spP 2 false d__law_pick)) :
    FnG P w K mg base CX0 (k + 1) f fd ["pot"] (spP 1 false (d__law_odd)) :=
  defP_ok F sc__law_odd (os := []) (new := false) (show RSs (ctxD P w K mg base ["pot", "some", "more"] s__law_odd k (some 0) [0]) false [] (defBody s__law_odd) (b__law_odd) from
    (rss_cons (rs_set (i := 1) rfl (by first | exact .inl rfl | exact .inr ⟨rfl, rfl⟩) (by first | decide | (dsimp only [ctxD, ctxC]; decide) | (intro h; dsimp only [ctxD, ctxC] at h; revert h; decide) | (intro i hi; dsimp only [ctxD, ctxC] at *; revert i hi; decide)) (fun i h => by cases h; decide) (RN.re (rn_lst (ras_cons re_non (ras_cons re_bl (ras_cons re_bl (ras_cons re_int (ras_cons re_int (ras_cons (re_neg (RE.wk re_int)) (ras_cons re_int (ras_cons (re_pow (RE.wk re_int) (RE.wk re_int)) (ras_cons re_str (ras_cons re_str (ras_cons re_str (ras_cons (re_tup ras_nil) (ras_cons (re_tup (ras_cons re_int ras_nil)) (ras_cons (re_tup (ras_cons (re_tup (ras_cons re_int ras_nil)) ras_nil)) (ras_cons (re_tup (ras_cons (re_tup (ras_cons re_int (ras_cons re_int ras_nil))) (ras_cons (re_tup (ras_cons re_int (ras_cons re_int ras_nil))) ras_nil))) (ras_cons (re_tup (ras_cons re_int (ras_cons re_int ras_nil))) (ras_cons (re_tup (ras_cons re_int (ras_cons re_int ras_nil))) ras_nil))))))))))))))))))))
    (rss_cons (rs_set (i := 2) rfl (by first | exact .inl rfl | exact .inr ⟨rfl, rfl⟩) (by first | decide | (dsimp only [ctxD, ctxC]; decide) | (intro h; dsimp only [ctxD, ctxC] at h; revert h; decide) | (intro i hi; dsimp only [ctxD, ctxC] at *; revert i hi; decide)) (fun i h => by cases h; decide) (RN.re (rn_lst (ras_cons (RN.re (rn_lst ras_nil)) (ras_cons (RN.re (rn_lst (ras_cons (RN.re (rn_lst (ras_cons re_int ras_nil))) ras_nil))) (ras_cons re_dic (ras_cons (re_tup (ras_cons (re_tup (ras_cons re_int (ras_cons (re_neg (RE.wk re_int)) ras_nil))) (ras_cons (re_tup (ras_cons (re_neg (RE.wk re_int)) ras_nil)) ras_nil))) (ras_cons (re_tup (ras_cons (re_tup (ras_cons re_bl ras_nil)) ras_nil)) (ras_cons (re_tup (ras_cons re_non ras_nil)) (ras_cons (re_tup (ras_cons re_str ras_nil)) (ras_cons (re_tup (ras_cons (re_tup (ras_cons re_int (ras_cons re_int ras_nil))) (ras_cons re_int ras_nil))) (ras_cons (re_tup (ras_cons re_int (ras_cons re_int ras_nil))) (ras_cons (re_tup (ras_cons (re_neg (RE.wk re_int)) (ras_cons re_int ras_nil))) (ras_cons (re_tup (ras_cons re_int (ras_cons re_int (ras_cons re_int ras_nil)))) (ras_cons (re_tup (ras_cons re_bl (ras_cons re_int ras_nil))) ras_nil)))))))))))))))
    (rss_one (rs_ret (re_callP (i := 0) ⟨cal__law_pick.ex⟩ rfl (by first | exact .inl rfl | exact .inr (.inl rfl) | exact .inr (.inr rfl)) rfl (ras_cons (RN.re (rn_cat (RE.wk (re_v (i := 1) rfl (by first | exact .inl rfl | exact .inr (.inl rfl) | exact .inr (.inr rfl)) (by first | decide | (dsimp only [ctxD, ctxC]; decide) | (intro h; dsimp only [ctxD, ctxC] at h; revert h; decide) | (intro i hi; dsimp only [ctxD, ctxC] at *; revert i hi; decide)))) (RE.wk (re_v (i := 2) rfl (by first | exact .inl rfl | exact .inr (.inl rfl) | exact .inr (.inr rfl)) (by first | decide | (dsimp only [ctxD, ctxC]; decide) | (intro h; dsimp only [ctxD, ctxC] at h; revert h; decide) | (intro i hi; dsimp only [ctxD, ctxC] at *; revert i hi; decide)))))) ras_nil) (aC_len aN_len))))))) (by first | decide | (dsimp only [ctxD, ctxC]; decide) | (intro h; dsimp only [ctxD, ctxC] at h; revert h; decide) | (intro i hi; dsimp only [ctxD, ctxC] at *; revert i hi; decide)) (by first | decide | (dsimp only [ctxD, ctxC]; decide) | (intro h; dsimp only [ctxD, ctxC] at h; revert h; decide) | (intro i hi; dsimp only [ctxD, ctxC] at *; revert i hi; decide)) (fun h => nomatch h)

abbrev s__law_thing : Stmt := topS 30
theorem sc__law_thing : FnScope ["pot", "deep", "way", "found", "turn"] ["pot", "deep"] (defScope s__law_thing) := ⟨rfl, rfl, rfl, by decide +kernel, rfl, by decide +kernel, by decide +kernel⟩
def b__law_thing (r : List D → Option (D × D)) : SM :=
  (sSeq (sSet 2 (eCallP 0 yes yes d__law_draw (aC (eC (.int 6)) aN)))
    (sSeq (sIf (bV (eB dLt (eV 2) (eC (.int 2)))) (sRet (eB dSub (eCallP 0 yes yes d__law_draw (aC (eB dPow (eC (.int 10)) (eC (.int 12))) aN)) (eB dMul (eC (.int 4)) (eB dPow (eC (.int 10)) (eC (.int 5)))))) sNx)
    (sSeq (sIf (bOr (bV (eB dLt (eV 2) (eC (.int 5)))) (bV (eB dEq (eV 1) (eC (.int 0))))) (sRet (eCallP 0 yes yes d__law_odd aN)) sNx)
    (sSeq (sSet 3 (eF dLst aN))
    (sSeq (sFor (aR1 (aC (eCallP 0 yes yes d__law_draw (aC (eC (.int 4)) aN)) aN)) (gN 4) (sUpd 3 (eCallP 0 yes yes r (aC (eB dSub (eV 1) (eC (.int 1))) aN)) appD))
    (sRet (eF (f1 dTuple) (aC (eV 3) aN))))))))
def d__law_thing (r : List D → Option (D × D)) : List D → Option (D × D) := runP 2 5 (b__law_thing r)
theorem ok__law_thing {k : Nat} {f : Addr} {fd : FuncData}  (F : L2.Fun K "_law_thing" "_law_thing" s__law_thing f fd)
    (cal__law_draw : Cal ⟨P, w, K, mg, base, [], defScope s__law_thing, k, fun _ => true, none, []⟩ "_law_draw" (spP 2 false d__law_draw)) (cal__law_odd : Cal ⟨P, w, K, mg, base, [], defScope s__law_thing, k, fun _ => true, none, []⟩ "_law_odd" (spP 1 false d__law_odd)) {r : List D → Option (D × D)} (cal__law_thing : Cal ⟨P, w, K, mg, base, [], defScope s__law_thing, k, fun _ => true, none, []⟩ "_law_thing" (spP 2 false r)) (m_range : mg ("range" : Str) = none) (m_tuple : mg ("tuple" : Str) = none) :
    FnG P w K mg base CX0 (k + 1) f fd ["pot", "deep"] (spP 2 false (d__law_thing r)) :=
  defP_ok F sc__law_thing (os := [3]) (new := false) (show RSs (ctxD P w K mg base ["pot", "deep", "way", "found", "turn"] s__law_thing k (some 0) [0, 3]) false [] (defBody s__law_thing) (b__law_thing r) from
    (rss_cons (rs_set (i := 2) rfl (by first | exact .inl rfl | exact .inr ⟨rfl, rfl⟩) (by first | decide | (dsimp only [ctxD, ctxC]; decide) | (intro h; dsimp only [ctxD, ctxC] at h; revert h; decide) | (intro i hi; dsimp only [ctxD, ctxC] at *; revert i hi; decide)) (fun i h => by cases h; decide) (re_callP (i := 0) ⟨cal__law_draw.ex⟩ rfl (by first | exact .inl rfl | exact .inr (.inl rfl) | exact .inr (.inr rfl)) rfl (ras_cons re_int ras_nil) (aC_len aN_len)))
    (rss_cons (rs_if (rt_lt (RE.wk (re_v (i := 2) rfl (by first | exact .inl rfl | exact .inr (.inl rfl) | exact .inr (.inr rfl)) (by first | decide | (dsimp only [ctxD, ctxC]; decide) | (intro h; dsimp only [ctxD, ctxC] at h; revert h; decide) | (intro i hi; dsimp only [ctxD, ctxC] at *; revert i hi; decide)))) (RE.wk re_int)) (rss_one (rs_ret (re_sub (RE.wk (re_callP (i := 0) ⟨cal__law_draw.ex⟩ rfl (by first | exact .inl rfl | exact .inr (.inl rfl) | exact .inr (.inr rfl)) rfl (ras_cons (re_pow (RE.wk re_int) (RE.wk re_int)) ras_nil) (aC_len aN_len))) (RE.wk (re_mul (RE.wk re_int) (RE.wk (re_pow (RE.wk re_int) (RE.wk re_int)))))))) rss_nil (fun i h => by cases h; decide))
    (rss_cons (rs_if (RTw.rt (rt_or (rt_lt (RE.wk (re_v (i := 2) rfl (by first | exact .inl rfl | exact .inr (.inl rfl) | exact .inr (.inr rfl)) (by first | decide | (dsimp only [ctxD, ctxC]; decide) | (intro h; dsimp only [ctxD, ctxC] at h; revert h; decide) | (intro i hi; dsimp only [ctxD, ctxC] at *; revert i hi; decide)))) (RE.wk re_int)) (rt_or1 (rt_eq (RE.wk (re_v (i := 1) rfl (by first | exact .inl rfl | exact .inr (.inl rfl) | exact .inr (.inr rfl)) (by first | decide | (dsimp only [ctxD, ctxC]; decide) | (intro h; dsimp only [ctxD, ctxC] at h; revert h; decide) | (intro i hi; dsimp only [ctxD, ctxC] at *; revert i hi; decide)))) (RE.wk re_int))))) (rss_one (rs_ret (re_callP (i := 0) ⟨cal__law_odd.ex⟩ rfl (by first | exact .inl rfl | exact .inr (.inl rfl) | exact .inr (.inr rfl)) rfl ras_nil aN_len))) rss_nil (fun i h => by cases h; decide))
    (rss_cons (rs_setN (i := 3) rfl (by first | exact .inl rfl | exact .inr ⟨rfl, rfl⟩) (by first | decide | (dsimp only [ctxD, ctxC]; decide) | (intro h; dsimp only [ctxD, ctxC] at h; revert h; decide) | (intro i hi; dsimp only [ctxD, ctxC] at *; revert i hi; decide)) (by first | decide | (dsimp only [ctxD, ctxC]; decide) | (intro h; dsimp only [ctxD, ctxC] at h; revert h; decide) | (intro i hi; dsimp only [ctxD, ctxC] at *; revert i hi; decide)) (by first | decide | (dsimp only [ctxD, ctxC]; decide) | (intro h; dsimp only [ctxD, ctxC] at h; revert h; decide) | (intro i hi; dsimp only [ctxD, ctxC] at *; revert i hi; decide)) (fun i h => by cases h; decide) (rn_lst ras_nil))
    (rss_cons (rs_for (ts := [4]) (fb' := []) (ri_range1 (ra_cons (RE.wk (re_callP (i := 0) ⟨cal__law_draw.ex⟩ rfl (by first | exact .inl rfl | exact .inr (.inl rfl) | exact .inr (.inr rfl)) rfl (ras_cons re_int ras_nil) (aC_len aN_len))) ra_nil) m_range) (rg_n (i := 4) rfl (by first | exact .inl rfl | exact .inr ⟨rfl, rfl⟩) (by first | decide | (dsimp only [ctxD, ctxC]; decide) | (intro h; dsimp only [ctxD, ctxC] at h; revert h; decide) | (intro i hi; dsimp only [ctxD, ctxC] at *; revert i hi; decide))) (rss_one (rs_app (i := 3) rfl (by first | exact .inl rfl | exact .inr (.inl rfl) | exact .inr (.inr rfl)) (by first | decide | (dsimp only [ctxD, ctxC]; decide) | (intro h; dsimp only [ctxD, ctxC] at h; revert h; decide) | (intro i hi; dsimp only [ctxD, ctxC] at *; revert i hi; decide)) (by first | decide | (dsimp only [ctxD, ctxC]; decide) | (intro h; dsimp only [ctxD, ctxC] at h; revert h; decide) | (intro i hi; dsimp only [ctxD, ctxC] at *; revert i hi; decide)) (fun i h => by cases h; decide) (re_callP (i := 0) ⟨cal__law_thing.ex⟩ rfl (by first | exact .inl rfl | exact .inr (.inl rfl) | exact .inr (.inr rfl)) rfl (ras_cons (re_sub (RE.wk (re_v (i := 1) rfl (by first | exact .inl rfl | exact .inr (.inl rfl) | exact .inr (.inr rfl)) (by first | decide | (dsimp only [ctxD, ctxC]; decide) | (intro h; dsimp only [ctxD, ctxC] at h; revert h; decide) | (intro i hi; dsimp only [ctxD, ctxC] at *; revert i hi; decide)))) (RE.wk re_int)) ras_nil) (aC_len aN_len)))) (by first | decide | (dsimp only [ctxD, ctxC]; decide) | (intro h; dsimp only [ctxD, ctxC] at h; revert h; decide) | (intro i hi; dsimp only [ctxD, ctxC] at *; revert i hi; decide)) (fun i h => by cases h; decide))
    (rss_one (rs_ret (re_tuple m_tuple (ra_cons (rw_v (i := 3) rfl (by first | exact .inl rfl | exact .inr (.inl rfl) | exact .inr (.inr rfl)) (by first | decide | (dsimp only [ctxD, ctxC]; decide) | (intro h; dsimp only [ctxD, ctxC] at h; revert h; decide) | (intro i hi; dsimp only [ctxD, ctxC] at *; revert i hi; decide))) ra_nil)))))))))) (by first | decide | (dsimp only [ctxD, ctxC]; decide) | (intro h; dsimp only [ctxD, ctxC] at h; revert h; decide) | (intro i hi; dsimp only [ctxD, ctxC] at *; revert i hi; decide)) (by first | decide | (dsimp only [ctxD, ctxC]; decide) | (intro h; dsimp only [ctxD, ctxC] at h; revert h; decide) | (intro i hi; dsimp only [ctxD, ctxC] at *; revert i hi; decide)) (fun h => nomatch h)

def d_thing0 : List D → Option (D × D) := d__law_thing fun _ => none
def d_thing1 : List D → Option (D × D) := d__law_thing d_thing0
def d_thing2 : List D → Option (D × D) := d__law_thing d_thing1


abbrev s__law_of_given : Stmt := topS 31
theorem sc__law_of_given : FnScope ["number", "thing"] ["number", "thing"] (defScope s__law_of_given) := ⟨rfl, rfl, rfl, by decide +kernel, rfl, by decide +kernel, by decide +kernel⟩
def b__law_of_given (K : PySem.W.Frag) (C : Nat → Addr) : SM :=
  (sSeq (sIf (bV (eB dLt (eV 0) (eC (.int 6)))) (sSeq (sIf (bV (eB dLt (eV 0) (eC (.int 3)))) (sSeq (sIf (bV (eB dEq (eV 0) (eC (.int 0)))) (sRet (eMk (C 0) "given" (eV 1))) sNx)
    (sRet (eI (bV (eB dEq (eV 0) (eC (.int 1)))) (eMk (C 1) "given" (eV 1)) (eMk (C 2) "given" (eV 1))))) sNx)
    (sRet (eI (bV (eB dEq (eV 0) (eC (.int 3)))) (eMk (C 3) "given" (eV 1)) (eI (bV (eB dEq (eV 0) (eC (.int 4)))) (eMk (C 4) "given" (eV 1)) (eMk (C 5) "given" (eV 1)))))) sNx)
    (sSeq (sIf (bV (eB dLt (eV 0) (eC (.int 12)))) (sSeq (sIf (bV (eB dLt (eV 0) (eC (.int 9)))) (sRet (eI (bV (eB dEq (eV 0) (eC (.int 6)))) (eMk (C 6) "given" (eV 1)) (eI (bV (eB dEq (eV 0) (eC (.int 7)))) (eMk (C 7) "given" (eV 1)) (eMk (C 8) "given" (eV 1))))) sNx)
    (sRet (eI (bV (eB dEq (eV 0) (eC (.int 9)))) (eMk (C 9) "given" (eV 1)) (eI (bV (eB dEq (eV 0) (eC (.int 10)))) (eMk (C 10) "given" (eV 1)) (eMk (C 11) "given" (eV 1)))))) sNx)
    (sSeq (sIf (bV (eB dLt (eV 0) (eC (.int 15)))) (sSeq (sIf (bV (eB dEq (eV 0) (eC (.int 12)))) (sRet (eMk (C 12) "given" (eV 1))) sNx)
    (sRet (eI (bV (eB dEq (eV 0) (eC (.int 13)))) (eMk (C 13) "given" (eV 1)) (eMk (C 14) "given" (eV 1))))) sNx)
    (sRet (eI (bV (eB dEq (eV 0) (eC (.int 15)))) (eMk (C 15) "given" (eV 1)) (eMk (C 16) "given" (eV 1)))))))
def d__law_of_given (K : PySem.W.Frag) (C : Nat → Addr) : List D → Option (D × D) := runD 2 2 (b__law_of_given K C)
theorem ok__law_of_given {k : Nat} {f : Addr} {fd : FuncData}  (F : L2.Fun K "_law_of_given" "_law_of_given" s__law_of_given f fd)
    (mk_InvalidMatrix : MkE ⟨P, w, K, mg, base, [], defScope s__law_of_given, k, fun _ => true, none, []⟩ "InvalidMatrix" (C 0) "given") (mk_InvalidType : MkE ⟨P, w, K, mg, base, [], defScope s__law_of_given, k, fun _ => true, none, []⟩ "InvalidType" (C 1) "given") (mk_InvalidVector : MkE ⟨P, w, K, mg, base, [], defScope s__law_of_given, k, fun _ => true, none, []⟩ "InvalidVector" (C 2) "given") (mk_InvalidRoot : MkE ⟨P, w, K, mg, base, [], defScope s__law_of_given, k, fun _ => true, none, []⟩ "InvalidRoot" (C 3) "given") (mk_InvalidNode : MkE ⟨P, w, K, mg, base, [], defScope s__law_of_given, k, fun _ => true, none, []⟩ "InvalidNode" (C 4) "given") (mk_InvalidNodes : MkE ⟨P, w, K, mg, base, [], defScope s__law_of_given, k, fun _ => true, none, []⟩ "InvalidNodes" (C 5) "given") (mk_InvalidWeight : MkE ⟨P, w, K, mg, base, [], defScope s__law_of_given, k, fun _ => true, none, []⟩ "InvalidWeight" (C 6) "given") (mk_InvalidWord : MkE ⟨P, w, K, mg, base, [], defScope s__law_of_given, k, fun _ => true, none, []⟩ "InvalidWord" (C 7) "given") (mk_InvalidSum : MkE ⟨P, w, K, mg, base, [], defScope s__law_of_given, k, fun _ => true, none, []⟩ "InvalidSum" (C 8) "given") (mk_InvalidTable : MkE ⟨P, w, K, mg, base, [], defScope s__law_of_given, k, fun _ => true, none, []⟩ "InvalidTable" (C 9) "given") (mk_InvalidCount : MkE ⟨P, w, K, mg, base, [], defScope s__law_of_given, k, fun _ => true, none, []⟩ "InvalidCount" (C 10) "given") (mk_InvalidPath : MkE ⟨P, w, K, mg, base, [], defScope s__law_of_given, k, fun _ => true, none, []⟩ "InvalidPath" (C 11) "given") (mk_InvalidExpression : MkE ⟨P, w, K, mg, base, [], defScope s__law_of_given, k, fun _ => true, none, []⟩ "InvalidExpression" (C 12) "given") (mk_InvalidDeed : MkE ⟨P, w, K, mg, base, [], defScope s__law_of_given, k, fun _ => true, none, []⟩ "InvalidDeed" (C 13) "given") (mk_InvalidBook : MkE ⟨P, w, K, mg, base, [], defScope s__law_of_given, k, fun _ => true, none, []⟩ "InvalidBook" (C 14) "given") (mk_NotAlike : MkE ⟨P, w, K, mg, base, [], defScope s__law_of_given, k, fun _ => true, none, []⟩ "NotAlike" (C 15) "given") (mk_TooMany : MkE ⟨P, w, K, mg, base, [], defScope s__law_of_given, k, fun _ => true, none, []⟩ "TooMany" (C 16) "given") :
    FnG P w K mg base CX0 (k + 1) f fd ["number", "thing"] (spD 2 false (d__law_of_given K C)) :=
  def_ok F sc__law_of_given (os := []) (new := false) (show RSs (ctxD P w K mg base ["number", "thing"] s__law_of_given k none []) false [] (defBody s__law_of_given) (b__law_of_given K C) from
    (rss_cons (rs_if (rt_lt (RE.wk (re_v (i := 0) rfl (by first | exact .inl rfl | exact .inr (.inl rfl) | exact .inr (.inr rfl)) (by first | decide | (dsimp only [ctxD, ctxC]; decide) | (intro h; dsimp only [ctxD, ctxC] at h; revert h; decide) | (intro i hi; dsimp only [ctxD, ctxC] at *; revert i hi; decide)))) (RE.wk re_int)) (rss_cons (rs_if (rt_lt (RE.wk (re_v (i := 0) rfl (by first | exact .inl rfl | exact .inr (.inl rfl) | exact .inr (.inr rfl)) (by first | decide | (dsimp only [ctxD, ctxC]; decide) | (intro h; dsimp only [ctxD, ctxC] at h; revert h; decide) | (intro i hi; dsimp only [ctxD, ctxC] at *; revert i hi; decide)))) (RE.wk re_int)) (rss_cons (rs_if (rt_eq (RE.wk (re_v (i := 0) rfl (by first | exact .inl rfl | exact .inr (.inl rfl) | exact .inr (.inr rfl)) (by first | decide | (dsimp only [ctxD, ctxC]; decide) | (intro h; dsimp only [ctxD, ctxC] at h; revert h; decide) | (intro i hi; dsimp only [ctxD, ctxC] at *; revert i hi; decide)))) (RE.wk re_int)) (rss_one (rs_ret (re_mkE mk_InvalidMatrix (re_v (i := 1) rfl (by first | exact .inl rfl | exact .inr (.inl rfl) | exact .inr (.inr rfl)) (by first | decide | (dsimp only [ctxD, ctxC]; decide) | (intro h; dsimp only [ctxD, ctxC] at h; revert h; decide) | (intro i hi; dsimp only [ctxD, ctxC] at *; revert i hi; decide)))))) rss_nil (fun i h => nomatch h))
    (rss_one (rs_ret (re_if (rt_eq (RE.wk (re_v (i := 0) rfl (by first | exact .inl rfl | exact .inr (.inl rfl) | exact .inr (.inr rfl)) (by first | decide | (dsimp only [ctxD, ctxC]; decide) | (intro h; dsimp only [ctxD, ctxC] at h; revert h; decide) | (intro i hi; dsimp only [ctxD, ctxC] at *; revert i hi; decide)))) (RE.wk re_int)) (re_mkE mk_InvalidType (re_v (i := 1) rfl (by first | exact .inl rfl | exact .inr (.inl rfl) | exact .inr (.inr rfl)) (by first | decide | (dsimp only [ctxD, ctxC]; decide) | (intro h; dsimp only [ctxD, ctxC] at h; revert h; decide) | (intro i hi; dsimp only [ctxD, ctxC] at *; revert i hi; decide)))) (re_mkE mk_InvalidVector (re_v (i := 1) rfl (by first | exact .inl rfl | exact .inr (.inl rfl) | exact .inr (.inr rfl)) (by first | decide | (dsimp only [ctxD, ctxC]; decide) | (intro h; dsimp only [ctxD, ctxC] at h; revert h; decide) | (intro i hi; dsimp only [ctxD, ctxC] at *; revert i hi; decide)))))))) rss_nil (fun i h => nomatch h))
    (rss_one (rs_ret (re_if (rt_eq (RE.wk (re_v (i := 0) rfl (by first | exact .inl rfl | exact .inr (.inl rfl) | exact .inr (.inr rfl)) (by first | decide | (dsimp only [ctxD, ctxC]; decide) | (intro h; dsimp only [ctxD, ctxC] at h; revert h; decide) | (intro i hi; dsimp only [ctxD, ctxC] at *; revert i hi; decide)))) (RE.wk re_int)) (re_mkE mk_InvalidRoot (re_v (i := 1) rfl (by first | exact .inl rfl | exact .inr (.inl rfl) | exact .inr (.inr rfl)) (by first | decide | (dsimp only [ctxD, ctxC]; decide) | (intro h; dsimp only [ctxD, ctxC] at h; revert h; decide) | (intro i hi; dsimp only [ctxD, ctxC] at *; revert i hi; decide)))) (re_if (rt_eq (RE.wk (re_v (i := 0) rfl (by first | exact .inl rfl | exact .inr (.inl rfl) | exact .inr (.inr rfl)) (by first | decide | (dsimp only [ctxD, ctxC]; decide) | (intro h; dsimp only [ctxD, ctxC] at h; revert h; decide) | (intro i hi; dsimp only [ctxD, ctxC] at *; revert i hi; decide)))) (RE.wk re_int)) (re_mkE mk_InvalidNode (re_v (i := 1) rfl (by first | exact .inl rfl | exact .inr (.inl rfl) | exact .inr (.inr rfl)) (by first | decide | (dsimp only [ctxD, ctxC]; decide) | (intro h; dsimp only [ctxD, ctxC] at h; revert h; decide) | (intro i hi; dsimp only [ctxD, ctxC] at *; revert i hi; decide)))) (re_mkE mk_InvalidNodes (re_v (i := 1) rfl (by first | exact .inl rfl | exact .inr (.inl rfl) | exact .inr (.inr rfl)) (by first | decide | (dsimp only [ctxD, ctxC]; decide) | (intro h; dsimp only [ctxD, ctxC] at h; revert h; decide) | (intro i hi; dsimp only [ctxD, ctxC] at *; revert i hi; decide))))))))) rss_nil (fun i h => nomatch h))
    (rss_cons (rs_if (rt_lt (RE.wk (re_v (i := 0) rfl (by first | exact .inl rfl | exact .inr (.inl rfl) | exact .inr (.inr rfl)) (by first | decide | (dsimp only [ctxD, ctxC]; decide) | (intro h; dsimp only [ctxD, ctxC] at h; revert h; decide) | (intro i hi; dsimp only [ctxD, ctxC] at *; revert i hi; decide)))) (RE.wk re_int)) (rss_cons (rs_if (rt_lt (RE.wk (re_v (i := 0) rfl (by first | exact .inl rfl | exact .inr (.inl rfl) | exact .inr (.inr rfl)) (by first | decide | (dsimp only [ctxD, ctxC]; decide) | (intro h; dsimp only [ctxD, ctxC] at h; revert h; decide) | (intro i hi; dsimp only [ctxD, ctxC] at *; revert i hi; decide)))) (RE.wk re_int)) (rss_one (rs_ret (re_if (rt_eq (RE.wk (re_v (i := 0) rfl (by first | exact .inl rfl | exact .inr (.inl rfl) | exact .inr (.inr rfl)) (by first | decide | (dsimp only [ctxD, ctxC]; decide) | (intro h; dsimp only [ctxD, ctxC] at h; revert h; decide) | (intro i hi; dsimp only [ctxD, ctxC] at *; revert i hi; decide)))) (RE.wk re_int)) (re_mkE mk_InvalidWeight (re_v (i := 1) rfl (by first | exact .inl rfl | exact .inr (.inl rfl) | exact .inr (.inr rfl)) (by first | decide | (dsimp only [ctxD, ctxC]; decide) | (intro h; dsimp only [ctxD, ctxC] at h; revert h; decide) | (intro i hi; dsimp only [ctxD, ctxC] at *; revert i hi; decide)))) (re_if (rt_eq (RE.wk (re_v (i := 0) rfl (by first | exact .inl rfl | exact .inr (.inl rfl) | exact .inr (.inr rfl)) (by first | decide | (dsimp only [ctxD, ctxC]; decide) | (intro h; dsimp only [ctxD, ctxC] at h; revert h; decide) | (intro i hi; dsimp only [ctxD, ctxC] at *; revert i hi; decide)))) (RE.wk re_int)) (re_mkE mk_InvalidWord (re_v (i := 1) rfl (by first | exact .inl rfl | exact .inr (.inl rfl) | exact .inr (.inr rfl)) (by first | decide | (dsimp only [ctxD, ctxC]; decide) | (intro h; dsimp only [ctxD, ctxC] at h; revert h; decide) | (intro i hi; dsimp only [ctxD, ctxC] at *; revert i hi; decide)))) (re_mkE mk_InvalidSum (re_v (i := 1) rfl (by first | exact .inl rfl | exact .inr (.inl rfl) | exact .inr (.inr rfl)) (by first | decide | (dsimp only [ctxD, ctxC]; decide) | (intro h; dsimp only [ctxD, ctxC] at h; revert h; decide) | (intro i hi; dsimp only [ctxD, ctxC] at *; revert i hi; decide)))))))) rss_nil (fun i h => nomatch h))
    (rss_one (rs_ret (re_if (rt_eq (RE.wk (re_v (i := 0) rfl (by first | exact .inl rfl | exact .inr (.inl rfl) | exact .inr (.inr rfl)) (by first | decide | (dsimp only [ctxD, ctxC]; decide) | (intro h; dsimp only [ctxD, ctxC] at h; revert h; decide) | (intro i hi; dsimp only [ctxD, ctxC] at *; revert i hi; decide)))) (RE.wk re_int)) (re_mkE mk_InvalidTable (re_v (i := 1) rfl (by first | exact .inl rfl | exact .inr (.inl rfl) | exact .inr (.inr rfl)) (by first | decide | (dsimp only [ctxD, ctxC]; decide) | (intro h; dsimp only [ctxD, ctxC] at h; revert h; decide) | (intro i hi; dsimp only [ctxD, ctxC] at *; revert i hi; decide)))) (re_if (rt_eq (RE.wk (re_v (i := 0) rfl (by first | exact .inl rfl | exact .inr (.inl rfl) | exact .inr (.inr rfl)) (by first | decide | (dsimp only [ctxD, ctxC]; decide) | (intro h; dsimp only [ctxD, ctxC] at h; revert h; decide) | (intro i hi; dsimp only [ctxD, ctxC] at *; revert i hi; decide)))) (RE.wk re_int)) (re_mkE mk_InvalidCount (re_v (i := 1) rfl (by first | exact .inl rfl | exact .inr (.inl rfl) | exact .inr (.inr rfl)) (by first | decide | (dsimp only [ctxD, ctxC]; decide) | (intro h; dsimp only [ctxD, ctxC] at h; revert h; decide) | (intro i hi; dsimp only [ctxD, ctxC] at *; revert i hi; decide)))) (re_mkE mk_InvalidPath (re_v (i := 1) rfl (by first | exact .inl rfl | exact .inr (.inl rfl) | exact .inr (.inr rfl)) (by first | decide | (dsimp only [ctxD, ctxC]; decide) | (intro h; dsimp only [ctxD, ctxC] at h; revert h; decide) | (intro i hi; dsimp only [ctxD, ctxC] at *; revert i hi; decide))))))))) rss_nil (fun i h => nomatch h))
    (rss_cons (rs_if (rt_lt (RE.wk (re_v (i := 0) rfl (by first | exact .inl rfl | exact .inr (.inl rfl) | exact .inr (.inr rfl)) (by first | decide | (dsimp only [ctxD, ctxC]; decide) | (intro h; dsimp only [ctxD, ctxC] at h; revert h; decide) | (intro i hi; dsimp only [ctxD, ctxC] at *; revert i hi; decide)))) (RE.wk re_int)) (rss_cons (rs_if (rt_eq (RE.wk (re_v (i := 0) rfl (by first | exact .inl rfl | exact .inr (.inl rfl) | exact .inr (.inr rfl)) (by first | decide | (dsimp only [ctxD, ctxC]; decide) | (intro h; dsimp only [ctxD, ctxC] at h; revert h; decide) | (intro i hi; dsimp only [ctxD, ctxC] at *; revert i hi; decide)))) (RE.wk re_int)) (rss_one (rs_ret (re_mkE mk_InvalidExpression (re_v (i := 1) rfl (by first | exact .inl rfl | exact .inr (.inl rfl) | exact .inr (.inr rfl)) (by first | decide | (dsimp only [ctxD, ctxC]; decide) | (intro h; dsimp only [ctxD, ctxC] at h; revert h; decide) | (intro i hi; dsimp only [ctxD, ctxC] at *; revert i hi; decide)))))) rss_nil (fun i h => nomatch h))
    (rss_one (rs_ret (re_if (rt_eq (RE.wk (re_v (i := 0) rfl (by first | exact .inl rfl | exact .inr (.inl rfl) | exact .inr (.inr rfl)) (by first | decide | (dsimp only [ctxD, ctxC]; decide) | (intro h; dsimp only [ctxD, ctxC] at h; revert h; decide) | (intro i hi; dsimp only [ctxD, ctxC] at *; revert i hi; decide)))) (RE.wk re_int)) (re_mkE mk_InvalidDeed (re_v (i := 1) rfl (by first | exact .inl rfl | exact .inr (.inl rfl) | exact .inr (.inr rfl)) (by first | decide | (dsimp only [ctxD, ctxC]; decide) | (intro h; dsimp only [ctxD, ctxC] at h; revert h; decide) | (intro i hi; dsimp only [ctxD, ctxC] at *; revert i hi; decide)))) (re_mkE mk_InvalidBook (re_v (i := 1) rfl (by first | exact .inl rfl | exact .inr (.inl rfl) | exact .inr (.inr rfl)) (by first | decide | (dsimp only [ctxD, ctxC]; decide) | (intro h; dsimp only [ctxD, ctxC] at h; revert h; decide) | (intro i hi; dsimp only [ctxD, ctxC] at *; revert i hi; decide)))))))) rss_nil (fun i h => nomatch h))
    (rss_one (rs_ret (re_if (rt_eq (RE.wk (re_v (i := 0) rfl (by first | exact .inl rfl | exact .inr (.inl rfl) | exact .inr (.inr rfl)) (by first | decide | (dsimp only [ctxD, ctxC]; decide) | (intro h; dsimp only [ctxD, ctxC] at h; revert h; decide) | (intro i hi; dsimp only [ctxD, ctxC] at *; revert i hi; decide)))) (RE.wk re_int)) (re_mkE mk_NotAlike (re_v (i := 1) rfl (by first | exact .inl rfl | exact .inr (.inl rfl) | exact .inr (.inr rfl)) (by first | decide | (dsimp only [ctxD, ctxC]; decide) | (intro h; dsimp only [ctxD, ctxC] at h; revert h; decide) | (intro i hi; dsimp only [ctxD, ctxC] at *; revert i hi; decide)))) (re_mkE mk_TooMany (re_v (i := 1) rfl (by first | exact .inl rfl | exact .inr (.inl rfl) | exact .inr (.inr rfl)) (by first | decide | (dsimp only [ctxD, ctxC]; decide) | (intro h; dsimp only [ctxD, ctxC] at h; revert h; decide) | (intro i hi; dsimp only [ctxD, ctxC] at *; revert i hi; decide))))))))))) (by first | decide | (dsimp only [ctxD, ctxC]; decide) | (intro h; dsimp only [ctxD, ctxC] at h; revert h; decide) | (intro i hi; dsimp only [ctxD, ctxC] at *; revert i hi; decide)) (fun h => nomatch h)

abbrev s__law_by_given : Stmt := topS 32
theorem sc__law_by_given : FnScope ["number", "thing"] ["number", "thing"] (defScope s__law_by_given) := ⟨rfl, rfl, rfl, by decide +kernel, rfl, by decide +kernel, by decide +kernel⟩
def b__law_by_given (K : PySem.W.Frag) (C : Nat → Addr) : SM :=
  (sSeq (sIf (bV (eB dLt (eV 0) (eC (.int 3)))) (sSeq (sIf (bV (eB dEq (eV 0) (eC (.int 0)))) (sRet (eMk (C 0) "given" (eV 1))) sNx)
    (sRet (eI (bV (eB dEq (eV 0) (eC (.int 1)))) (eMk (C 1) "given" (eV 1)) (eMk (C 2) "given" (eV 1))))) sNx)
    (sSeq (sIf (bV (eB dLt (eV 0) (eC (.int 6)))) (sSeq (sIf (bV (eB dEq (eV 0) (eC (.int 3)))) (sRet (eMk (C 3) "given" (eV 1))) sNx)
    (sRet (eI (bV (eB dEq (eV 0) (eC (.int 4)))) (eMk (C 4) "given" (eV 1)) (eMk (C 5) "given" (eV 1))))) sNx)
    (sSeq (sIf (bV (eB dLt (eV 0) (eC (.int 9)))) (sSeq (sIf (bV (eB dEq (eV 0) (eC (.int 6)))) (sRet (eMk (C 6) "given" (eV 1))) sNx)
    (sRet (eI (bV (eB dEq (eV 0) (eC (.int 7)))) (eMk (C 7) "given" (eV 1)) (eMk (C 8) "given" (eV 1))))) sNx)
    (sSeq (sIf (bV (eB dLt (eV 0) (eC (.int 12)))) (sSeq (sIf (bV (eB dEq (eV 0) (eC (.int 9)))) (sRet (eMk (C 9) "given" (eV 1))) sNx)
    (sRet (eI (bV (eB dEq (eV 0) (eC (.int 10)))) (eMk (C 10) "given" (eV 1)) (eMk (C 11) "given" (eV 1))))) sNx)
    (sSeq (sIf (bV (eB dEq (eV 0) (eC (.int 12)))) (sRet (eMk (C 12) "given" (eV 1))) sNx)
    (sSeq (sIf (bV (eB dLt (eV 0) (eC (.int 15)))) (sRet (eI (bV (eB dEq (eV 0) (eC (.int 13)))) (eMk (C 13) "given" (eV 1)) (eMk (C 14) "given" (eV 1)))) sNx)
    (sRet (eI (bV (eB dEq (eV 0) (eC (.int 15)))) (eMk (C 15) "given" (eV 1)) (eMk (C 16) "given" (eV 1))))))))))
def d__law_by_given (K : PySem.W.Frag) (C : Nat → Addr) : List D → Option (D × D) := runD 2 2 (b__law_by_given K C)
theorem ok__law_by_given {k : Nat} {f : Addr} {fd : FuncData}  (F : L2.Fun K "_law_by_given" "_law_by_given" s__law_by_given f fd)
    (mk_InvalidMatrix : MkE ⟨P, w, K, mg, base, [], defScope s__law_by_given, k, fun _ => true, none, []⟩ "InvalidMatrix" (C 0) "given") (mk_InvalidType : MkE ⟨P, w, K, mg, base, [], defScope s__law_by_given, k, fun _ => true, none, []⟩ "InvalidType" (C 1) "given") (mk_InvalidVector : MkE ⟨P, w, K, mg, base, [], defScope s__law_by_given, k, fun _ => true, none, []⟩ "InvalidVector" (C 2) "given") (mk_InvalidRoot : MkE ⟨P, w, K, mg, base, [], defScope s__law_by_given, k, fun _ => true, none, []⟩ "InvalidRoot" (C 3) "given") (mk_InvalidNode : MkE ⟨P, w, K, mg, base, [], defScope s__law_by_given, k, fun _ => true, none, []⟩ "InvalidNode" (C 4) "given") (mk_InvalidNodes : MkE ⟨P, w, K, mg, base, [], defScope s__law_by_given, k, fun _ => true, none, []⟩ "InvalidNodes" (C 5) "given") (mk_InvalidWeight : MkE ⟨P, w, K, mg, base, [], defScope s__law_by_given, k, fun _ => true, none, []⟩ "InvalidWeight" (C 6) "given") (mk_InvalidWord : MkE ⟨P, w, K, mg, base, [], defScope s__law_by_given, k, fun _ => true, none, []⟩ "InvalidWord" (C 7) "given") (mk_InvalidSum : MkE ⟨P, w, K, mg, base, [], defScope s__law_by_given, k, fun _ => true, none, []⟩ "InvalidSum" (C 8) "given") (mk_InvalidTable : MkE ⟨P, w, K, mg, base, [], defScope s__law_by_given, k, fun _ => true, none, []⟩ "InvalidTable" (C 9) "given") (mk_InvalidCount : MkE ⟨P, w, K, mg, base, [], defScope s__law_by_given, k, fun _ => true, none, []⟩ "InvalidCount" (C 10) "given") (mk_InvalidPath : MkE ⟨P, w, K, mg, base, [], defScope s__law_by_given, k, fun _ => true, none, []⟩ "InvalidPath" (C 11) "given") (mk_InvalidExpression : MkE ⟨P, w, K, mg, base, [], defScope s__law_by_given, k, fun _ => true, none, []⟩ "InvalidExpression" (C 12) "given") (mk_InvalidDeed : MkE ⟨P, w, K, mg, base, [], defScope s__law_by_given, k, fun _ => true, none, []⟩ "InvalidDeed" (C 13) "given") (mk_InvalidBook : MkE ⟨P, w, K, mg, base, [], defScope s__law_by_given, k, fun _ => true, none, []⟩ "InvalidBook" (C 14) "given") (mk_NotAlike : MkE ⟨P, w, K, mg, base, [], defScope s__law_by_given, k, fun _ => true, none, []⟩ "NotAlike" (C 15) "given") (mk_TooMany : MkE ⟨P, w, K, mg, base, [], defScope s__law_by_given, k, fun _ => true, none, []⟩ "TooMany" (C 16) "given") :
    FnG P w K mg base CX0 (k + 1) f fd ["number", "thing"] (spD 2 false (d__law_by_given K C)) :=
  def_ok F sc__law_by_given (os := []) (new := false) (show RSs (ctxD P w K mg base ["number", "thing"] s__law_by_given k none []) false [] (defBody s__law_by_given) (b__law_by_given K C) from
    (rss_cons (rs_if (rt_lt (RE.wk (re_v (i := 0) rfl (by first | exact .inl rfl | exact .inr (.inl rfl) | exact .inr (.inr rfl)) (by first | decide | (dsimp only [ctxD, ctxC]; decide) | (intro h; dsimp only [ctxD, ctxC] at h; revert h; decide) | (intro i hi; dsimp only [ctxD, ctxC] at *; revert i hi; decide)))) (RE.wk re_int)) (rss_cons (rs_if (rt_eq (RE.wk (re_v (i := 0) rfl (by first | exact .inl rfl | exact .inr (.inl rfl) | exact .inr (.inr rfl)) (by first | decide | (dsimp only [ctxD, ctxC]; decide) | (intro h; dsimp only [ctxD, ctxC] at h; revert h; decide) | (intro i hi; dsimp only [ctxD, ctxC] at *; revert i hi; decide)))) (RE.wk re_int)) (rss_one (rs_ret (re_mkK mk_InvalidMatrix (re_v (i := 1) rfl (by first | exact .inl rfl | exact .inr (.inl rfl) | exact .inr (.inr rfl)) (by first | decide | (dsimp only [ctxD, ctxC]; decide) | (intro h; dsimp only [ctxD, ctxC] at h; revert h; decide) | (intro i hi; dsimp only [ctxD, ctxC] at *; revert i hi; decide)))))) rss_nil (fun i h => nomatch h))
    (rss_one (rs_ret (re_if (rt_eq (RE.wk (re_v (i := 0) rfl (by first | exact .inl rfl | exact .inr (.inl rfl) | exact .inr (.inr rfl)) (by first | decide | (dsimp only [ctxD, ctxC]; decide) | (intro h; dsimp only [ctxD, ctxC] at h; revert h; decide) | (intro i hi; dsimp only [ctxD, ctxC] at *; revert i hi; decide)))) (RE.wk re_int)) (re_mkK mk_InvalidType (re_v (i := 1) rfl (by first | exact .inl rfl | exact .inr (.inl rfl) | exact .inr (.inr rfl)) (by first | decide | (dsimp only [ctxD, ctxC]; decide) | (intro h; dsimp only [ctxD, ctxC] at h; revert h; decide) | (intro i hi; dsimp only [ctxD, ctxC] at *; revert i hi; decide)))) (re_mkK mk_InvalidVector (re_v (i := 1) rfl (by first | exact .inl rfl | exact .inr (.inl rfl) | exact .inr (.inr rfl)) (by first | decide | (dsimp only [ctxD, ctxC]; decide) | (intro h; dsimp only [ctxD, ctxC] at h; revert h; decide) | (intro i hi; dsimp only [ctxD, ctxC] at *; revert i hi; decide)))))))) rss_nil (fun i h => nomatch h))
    (rss_cons (rs_if (rt_lt (RE.wk (re_v (i := 0) rfl (by first | exact .inl rfl | exact .inr (.inl rfl) | exact .inr (.inr rfl)) (by first | decide | (dsimp only [ctxD, ctxC]; decide) | (intro h; dsimp only [ctxD, ctxC] at h; revert h; decide) | (intro i hi; dsimp only [ctxD, ctxC] at *; revert i hi; decide)))) (RE.wk re_int)) (rss_cons (rs_if (rt_eq (RE.wk (re_v (i := 0) rfl (by first | exact .inl rfl | exact .inr (.inl rfl) | exact .inr (.inr rfl)) (by first | decide | (dsimp only [ctxD, ctxC]; decide) | (intro h; dsimp only [ctxD, ctxC] at h; revert h; decide) | (intro i hi; dsimp only [ctxD, ctxC] at *; revert i hi; decide)))) (RE.wk re_int)) (rss_one (rs_ret (re_mkK mk_InvalidRoot (re_v (i := 1) rfl (by first | exact .inl rfl | exact .inr (.inl rfl) | exact .inr (.inr rfl)) (by first | decide | (dsimp only [ctxD, ctxC]; decide) | (intro h; dsimp only [ctxD, ctxC] at h; revert h; decide) | (intro i hi; dsimp only [ctxD, ctxC] at *; revert i hi; decide)))))) rss_nil (fun i h => nomatch h))
    (rss_one (rs_ret (re_if (rt_eq (RE.wk (re_v (i := 0) rfl (by first | exact .inl rfl | exact .inr (.inl rfl) | exact .inr (.inr rfl)) (by first | decide | (dsimp only [ctxD, ctxC]; decide) | (intro h; dsimp only [ctxD, ctxC] at h; revert h; decide) | (intro i hi; dsimp only [ctxD, ctxC] at *; revert i hi; decide)))) (RE.wk re_int)) (re_mkK mk_InvalidNode (re_v (i := 1) rfl (by first | exact .inl rfl | exact .inr (.inl rfl) | exact .inr (.inr rfl)) (by first | decide | (dsimp only [ctxD, ctxC]; decide) | (intro h; dsimp only [ctxD, ctxC] at h; revert h; decide) | (intro i hi; dsimp only [ctxD, ctxC] at *; revert i hi; decide)))) (re_mkK mk_InvalidNodes (re_v (i := 1) rfl (by first | exact .inl rfl | exact .inr (.inl rfl) | exact .inr (.inr rfl)) (by first | decide | (dsimp only [ctxD, ctxC]; decide) | (intro h; dsimp only [ctxD, ctxC] at h; revert h; decide) | (intro i hi; dsimp only [ctxD, ctxC] at *; revert i hi; decide)))))))) rss_nil (fun i h => nomatch h))
    (rss_cons (rs_if (rt_lt (RE.wk (re_v (i := 0) rfl (by first | exact .inl rfl | exact .inr (.inl rfl) | exact .inr (.inr rfl)) (by first | decide | (dsimp only [ctxD, ctxC]; decide) | (intro h; dsimp only [ctxD, ctxC] at h; revert h; decide) | (intro i hi; dsimp only [ctxD, ctxC] at *; revert i hi; decide)))) (RE.wk re_int)) (rss_cons (rs_if (rt_eq (RE.wk (re_v (i := 0) rfl (by first | exact .inl rfl | exact .inr (.inl rfl) | exact .inr (.inr rfl)) (by first | decide | (dsimp only [ctxD, ctxC]; decide) | (intro h; dsimp only [ctxD, ctxC] at h; revert h; decide) | (intro i hi; dsimp only [ctxD, ctxC] at *; revert i hi; decide)))) (RE.wk re_int)) (rss_one (rs_ret (re_mkK mk_InvalidWeight (re_v (i := 1) rfl (by first | exact .inl rfl | exact .inr (.inl rfl) | exact .inr (.inr rfl)) (by first | decide | (dsimp only [ctxD, ctxC]; decide) | (intro h; dsimp only [ctxD, ctxC] at h; revert h; decide) | (intro i hi; dsimp only [ctxD, ctxC] at *; revert i hi; decide)))))) rss_nil (fun i h => nomatch h))
    (rss_one (rs_ret (re_if (rt_eq (RE.wk (re_v (i := 0) rfl (by first | exact .inl rfl | exact .inr (.inl rfl) | exact .inr (.inr rfl)) (by first | decide | (dsimp only [ctxD, ctxC]; decide) | (intro h; dsimp only [ctxD, ctxC] at h; revert h; decide) | (intro i hi; dsimp only [ctxD, ctxC] at *; revert i hi; decide)))) (RE.wk re_int)) (re_mkK mk_InvalidWord (re_v (i := 1) rfl (by first | exact .inl rfl | exact .inr (.inl rfl) | exact .inr (.inr rfl)) (by first | decide | (dsimp only [ctxD, ctxC]; decide) | (intro h; dsimp only [ctxD, ctxC] at h; revert h; decide) | (intro i hi; dsimp only [ctxD, ctxC] at *; revert i hi; decide)))) (re_mkK mk_InvalidSum (re_v (i := 1) rfl (by first | exact .inl rfl | exact .inr (.inl rfl) | exact .inr (.inr rfl)) (by first | decide | (dsimp only [ctxD, ctxC]; decide) | (intro h; dsimp only [ctxD, ctxC] at h; revert h; decide) | (intro i hi; dsimp only [ctxD, ctxC] at *; revert i hi; decide)))))))) rss_nil (fun i h => nomatch h))
    (rss_cons (rs_if (rt_lt (RE.wk (re_v (i := 0) rfl (by first | exact .inl rfl | exact .inr (.inl rfl) | exact .inr (.inr rfl)) (by first | decide | (dsimp only [ctxD, ctxC]; decide) | (intro h; dsimp only [ctxD, ctxC] at h; revert h; decide) | (intro i hi; dsimp only [ctxD, ctxC] at *; revert i hi; decide)))) (RE.wk re_int)) (rss_cons (rs_if (rt_eq (RE.wk (re_v (i := 0) rfl (by first | exact .inl rfl | exact .inr (.inl rfl) | exact .inr (.inr rfl)) (by first | decide | (dsimp only [ctxD, ctxC]; decide) | (intro h; dsimp only [ctxD, ctxC] at h; revert h; decide) | (intro i hi; dsimp only [ctxD, ctxC] at *; revert i hi; decide)))) (RE.wk re_int)) (rss_one (rs_ret (re_mkK mk_InvalidTable (re_v (i := 1) rfl (by first | exact .inl rfl | exact .inr (.inl rfl) | exact .inr (.inr rfl)) (by first | decide | (dsimp only [ctxD, ctxC]; decide) | (intro h; dsimp only [ctxD, ctxC] at h; revert h; decide) | (intro i hi; dsimp only [ctxD, ctxC] at *; revert i hi; decide)))))) rss_nil (fun i h => nomatch h))
    (rss_one (rs_ret (re_if (rt_eq (RE.wk (re_v (i := 0) rfl (by first | exact .inl rfl | exact .inr (.inl rfl) | exact .inr (.inr rfl)) (by first | decide | (dsimp only [ctxD, ctxC]; decide) | (intro h; dsimp only [ctxD, ctxC] at h; revert h; decide) | (intro i hi; dsimp only [ctxD, ctxC] at *; revert i hi; decide)))) (RE.wk re_int)) (re_mkK mk_InvalidCount (re_v (i := 1) rfl (by first | exact .inl rfl | exact .inr (.inl rfl) | exact .inr (.inr rfl)) (by first | decide | (dsimp only [ctxD, ctxC]; decide) | (intro h; dsimp only [ctxD, ctxC] at h; revert h; decide) | (intro i hi; dsimp only [ctxD, ctxC] at *; revert i hi; decide)))) (re_mkK mk_InvalidPath (re_v (i := 1) rfl (by first | exact .inl rfl | exact .inr (.inl rfl) | exact .inr (.inr rfl)) (by first | decide | (dsimp only [ctxD, ctxC]; decide) | (intro h; dsimp only [ctxD, ctxC] at h; revert h; decide) | (intro i hi; dsimp only [ctxD, ctxC] at *; revert i hi; decide)))))))) rss_nil (fun i h => nomatch h))
    (rss_cons (rs_if (rt_eq (RE.wk (re_v (i := 0) rfl (by first | exact .inl rfl | exact .inr (.inl rfl) | exact .inr (.inr rfl)) (by first | decide | (dsimp only [ctxD, ctxC]; decide) | (intro h; dsimp only [ctxD, ctxC] at h; revert h; decide) | (intro i hi; dsimp only [ctxD, ctxC] at *; revert i hi; decide)))) (RE.wk re_int)) (rss_one (rs_ret (re_mkK mk_InvalidExpression (re_v (i := 1) rfl (by first | exact .inl rfl | exact .inr (.inl rfl) | exact .inr (.inr rfl)) (by first | decide | (dsimp only [ctxD, ctxC]; decide) | (intro h; dsimp only [ctxD, ctxC] at h; revert h; decide) | (intro i hi; dsimp only [ctxD, ctxC] at *; revert i hi; decide)))))) rss_nil (fun i h => nomatch h))
    (rss_cons (rs_if (rt_lt (RE.wk (re_v (i := 0) rfl (by first | exact .inl rfl | exact .inr (.inl rfl) | exact .inr (.inr rfl)) (by first | decide | (dsimp only [ctxD, ctxC]; decide) | (intro h; dsimp only [ctxD, ctxC] at h; revert h; decide) | (intro i hi; dsimp only [ctxD, ctxC] at *; revert i hi; decide)))) (RE.wk re_int)) (rss_one (rs_ret (re_if (rt_eq (RE.wk (re_v (i := 0) rfl (by first | exact .inl rfl | exact .inr (.inl rfl) | exact .inr (.inr rfl)) (by first | decide | (dsimp only [ctxD, ctxC]; decide) | (intro h; dsimp only [ctxD, ctxC] at h; revert h; decide) | (intro i hi; dsimp only [ctxD, ctxC] at *; revert i hi; decide)))) (RE.wk re_int)) (re_mkK mk_InvalidDeed (re_v (i := 1) rfl (by first | exact .inl rfl | exact .inr (.inl rfl) | exact .inr (.inr rfl)) (by first | decide | (dsimp only [ctxD, ctxC]; decide) | (intro h; dsimp only [ctxD, ctxC] at h; revert h; decide) | (intro i hi; dsimp only [ctxD, ctxC] at *; revert i hi; decide)))) (re_mkK mk_InvalidBook (re_v (i := 1) rfl (by first | exact .inl rfl | exact .inr (.inl rfl) | exact .inr (.inr rfl)) (by first | decide | (dsimp only [ctxD, ctxC]; decide) | (intro h; dsimp only [ctxD, ctxC] at h; revert h; decide) | (intro i hi; dsimp only [ctxD, ctxC] at *; revert i hi; decide))))))) rss_nil (fun i h => nomatch h))
    (rss_one (rs_ret (re_if (rt_eq (RE.wk (re_v (i := 0) rfl (by first | exact .inl rfl | exact .inr (.inl rfl) | exact .inr (.inr rfl)) (by first | decide | (dsimp only [ctxD, ctxC]; decide) | (intro h; dsimp only [ctxD, ctxC] at h; revert h; decide) | (intro i hi; dsimp only [ctxD, ctxC] at *; revert i hi; decide)))) (RE.wk re_int)) (re_mkK mk_NotAlike (re_v (i := 1) rfl (by first | exact .inl rfl | exact .inr (.inl rfl) | exact .inr (.inr rfl)) (by first | decide | (dsimp only [ctxD, ctxC]; decide) | (intro h; dsimp only [ctxD, ctxC] at h; revert h; decide) | (intro i hi; dsimp only [ctxD, ctxC] at *; revert i hi; decide)))) (re_mkK mk_TooMany (re_v (i := 1) rfl (by first | exact .inl rfl | exact .inr (.inl rfl) | exact .inr (.inr rfl)) (by first | decide | (dsimp only [ctxD, ctxC]; decide) | (intro h; dsimp only [ctxD, ctxC] at h; revert h; decide) | (intro i hi; dsimp only [ctxD, ctxC] at *; revert i hi; decide)))))))))))))) (by first | decide | (dsimp only [ctxD, ctxC]; decide) | (intro h; dsimp only [ctxD, ctxC] at h; revert h; decide) | (intro i hi; dsimp only [ctxD, ctxC] at *; revert i hi; decide)) (fun h => nomatch h)

abbrev s__law_made : Stmt := topS 33
theorem sc__law_made : FnScope ["number", "thing", "is_named"] ["number", "thing", "is_named"] (defScope s__law_made) := ⟨rfl, rfl, rfl, by decide +kernel, rfl, by decide +kernel, by decide +kernel⟩
def b__law_made (K : PySem.W.Frag) (C : Nat → Addr) : SM :=
  (sSeq (sIf (bV (eB dLt (eV 0) (eC (.int 17)))) (sRet (eI (bV (eV 2)) (eCall yes (d__law_by_given K C) (aC (eV 0) (aC (eV 1) aN))) (eCall yes (d__law_of_given K C) (aC (eV 0) (aC (eV 1) aN))))) sNx)
    (sSeq (sIf (bV (eB dEq (eV 0) (eC (.int 17)))) (sRet (eI (bV (eV 2)) (eMk (C 17) "index" (eV 1)) (eMk (C 17) "index" (eV 1)))) sNx)
    (sSeq (sIf (bV (eB dEq (eV 0) (eC (.int 18)))) (sRet (eI (bV (eV 2)) (eMk (C 18) "spot" (eV 1)) (eMk (C 18) "spot" (eV 1)))) sNx)
    (sSeq (sIf (bV (eB dEq (eV 0) (eC (.int 19)))) (sRet (eC (dX0 (C 19)))) sNx)
    (sSeq (sIf (bV (eB dEq (eV 0) (eC (.int 20)))) (sRet (eC (dX0 (C 20)))) sNx)
    (sRet (eI (bV (eB dEq (eV 0) (eC (.int 21)))) (eC (dX0 (C 21))) (eC (dX0 (C 22))))))))))
def d__law_made (K : PySem.W.Frag) (C : Nat → Addr) : List D → Option (D × D) := runD 3 3 (b__law_made K C)
theorem ok__law_made {k : Nat} {f : Addr} {fd : FuncData}  (F : L2.Fun K "_law_made" "_law_made" s__law_made f fd)
    (cal__law_by_given : Cal ⟨P, w, K, mg, base, [], defScope s__law_made, k, fun _ => true, none, []⟩ "_law_by_given" (spD 2 false (d__law_by_given K C))) (cal__law_of_given : Cal ⟨P, w, K, mg, base, [], defScope s__law_made, k, fun _ => true, none, []⟩ "_law_of_given" (spD 2 false (d__law_of_given K C))) (mk_InvalidLines : MkE ⟨P, w, K, mg, base, [], defScope s__law_made, k, fun _ => true, none, []⟩ "InvalidLines" (C 17) "index") (mk_BadText : MkE ⟨P, w, K, mg, base, [], defScope s__law_made, k, fun _ => true, none, []⟩ "BadText" (C 18) "spot") (mk_NotFinite : Mk0 ⟨P, w, K, mg, base, [], defScope s__law_made, k, fun _ => true, none, []⟩ "NotFinite" (C 19)) (mk_NothingToUndo : Mk0 ⟨P, w, K, mg, base, [], defScope s__law_made, k, fun _ => true, none, []⟩ "NothingToUndo" (C 20)) (mk_NothingToRedo : Mk0 ⟨P, w, K, mg, base, [], defScope s__law_made, k, fun _ => true, none, []⟩ "NothingToRedo" (C 21)) (mk_NoPicture : Mk0 ⟨P, w, K, mg, base, [], defScope s__law_made, k, fun _ => true, none, []⟩ "NoPicture" (C 22)) :
    FnG P w K mg base CX0 (k + 1) f fd ["number", "thing", "is_named"] (spD 3 false (d__law_made K C)) :=
  def_ok F sc__law_made (os := []) (new := false) (show RSs (ctxD P w K mg base ["number", "thing", "is_named"] s__law_made k none []) false [] (defBody s__law_made) (b__law_made K C) from
    (rss_cons (rs_if (rt_lt (RE.wk (re_v (i := 0) rfl (by first | exact .inl rfl | exact .inr (.inl rfl) | exact .inr (.inr rfl)) (by first | decide | (dsimp only [ctxD, ctxC]; decide) | (intro h; dsimp only [ctxD, ctxC] at h; revert h; decide) | (intro i hi; dsimp only [ctxD, ctxC] at *; revert i hi; decide)))) (RE.wk re_int)) (rss_one (rs_ret (re_if (rt_val (re_v (i := 2) rfl (by first | exact .inl rfl | exact .inr (.inl rfl) | exact .inr (.inr rfl)) (by first | decide | (dsimp only [ctxD, ctxC]; decide) | (intro h; dsimp only [ctxD, ctxC] at h; revert h; decide) | (intro i hi; dsimp only [ctxD, ctxC] at *; revert i hi; decide)))) (re_call ⟨cal__law_by_given.ex⟩ rfl (ras_cons (re_v (i := 0) rfl (by first | exact .inl rfl | exact .inr (.inl rfl) | exact .inr (.inr rfl)) (by first | decide | (dsimp only [ctxD, ctxC]; decide) | (intro h; dsimp only [ctxD, ctxC] at h; revert h; decide) | (intro i hi; dsimp only [ctxD, ctxC] at *; revert i hi; decide))) (ras_cons (re_v (i := 1) rfl (by first | exact .inl rfl | exact .inr (.inl rfl) | exact .inr (.inr rfl)) (by first | decide | (dsimp only [ctxD, ctxC]; decide) | (intro h; dsimp only [ctxD, ctxC] at h; revert h; decide) | (intro i hi; dsimp only [ctxD, ctxC] at *; revert i hi; decide))) ras_nil)) (hl := (aC_len (aC_len aN_len)))) (re_call ⟨cal__law_of_given.ex⟩ rfl (ras_cons (re_v (i := 0) rfl (by first | exact .inl rfl | exact .inr (.inl rfl) | exact .inr (.inr rfl)) (by first | decide | (dsimp only [ctxD, ctxC]; decide) | (intro h; dsimp only [ctxD, ctxC] at h; revert h; decide) | (intro i hi; dsimp only [ctxD, ctxC] at *; revert i hi; decide))) (ras_cons (re_v (i := 1) rfl (by first | exact .inl rfl | exact .inr (.inl rfl) | exact .inr (.inr rfl)) (by first | decide | (dsimp only [ctxD, ctxC]; decide) | (intro h; dsimp only [ctxD, ctxC] at h; revert h; decide) | (intro i hi; dsimp only [ctxD, ctxC] at *; revert i hi; decide))) ras_nil)) (hl := (aC_len (aC_len aN_len))))))) rss_nil (fun i h => nomatch h))
    (rss_cons (rs_if (rt_eq (RE.wk (re_v (i := 0) rfl (by first | exact .inl rfl | exact .inr (.inl rfl) | exact .inr (.inr rfl)) (by first | decide | (dsimp only [ctxD, ctxC]; decide) | (intro h; dsimp only [ctxD, ctxC] at h; revert h; decide) | (intro i hi; dsimp only [ctxD, ctxC] at *; revert i hi; decide)))) (RE.wk re_int)) (rss_one (rs_ret (re_if (rt_val (re_v (i := 2) rfl (by first | exact .inl rfl | exact .inr (.inl rfl) | exact .inr (.inr rfl)) (by first | decide | (dsimp only [ctxD, ctxC]; decide) | (intro h; dsimp only [ctxD, ctxC] at h; revert h; decide) | (intro i hi; dsimp only [ctxD, ctxC] at *; revert i hi; decide)))) (re_mkK mk_InvalidLines (re_v (i := 1) rfl (by first | exact .inl rfl | exact .inr (.inl rfl) | exact .inr (.inr rfl)) (by first | decide | (dsimp only [ctxD, ctxC]; decide) | (intro h; dsimp only [ctxD, ctxC] at h; revert h; decide) | (intro i hi; dsimp only [ctxD, ctxC] at *; revert i hi; decide)))) (re_mkE mk_InvalidLines (re_v (i := 1) rfl (by first | exact .inl rfl | exact .inr (.inl rfl) | exact .inr (.inr rfl)) (by first | decide | (dsimp only [ctxD, ctxC]; decide) | (intro h; dsimp only [ctxD, ctxC] at h; revert h; decide) | (intro i hi; dsimp only [ctxD, ctxC] at *; revert i hi; decide))))))) rss_nil (fun i h => nomatch h))
    (rss_cons (rs_if (rt_eq (RE.wk (re_v (i := 0) rfl (by first | exact .inl rfl | exact .inr (.inl rfl) | exact .inr (.inr rfl)) (by first | decide | (dsimp only [ctxD, ctxC]; decide) | (intro h; dsimp only [ctxD, ctxC] at h; revert h; decide) | (intro i hi; dsimp only [ctxD, ctxC] at *; revert i hi; decide)))) (RE.wk re_int)) (rss_one (rs_ret (re_if (rt_val (re_v (i := 2) rfl (by first | exact .inl rfl | exact .inr (.inl rfl) | exact .inr (.inr rfl)) (by first | decide | (dsimp only [ctxD, ctxC]; decide) | (intro h; dsimp only [ctxD, ctxC] at h; revert h; decide) | (intro i hi; dsimp only [ctxD, ctxC] at *; revert i hi; decide)))) (re_mkK mk_BadText (re_v (i := 1) rfl (by first | exact .inl rfl | exact .inr (.inl rfl) | exact .inr (.inr rfl)) (by first | decide | (dsimp only [ctxD, ctxC]; decide) | (intro h; dsimp only [ctxD, ctxC] at h; revert h; decide) | (intro i hi; dsimp only [ctxD, ctxC] at *; revert i hi; decide)))) (re_mkE mk_BadText (re_v (i := 1) rfl (by first | exact .inl rfl | exact .inr (.inl rfl) | exact .inr (.inr rfl)) (by first | decide | (dsimp only [ctxD, ctxC]; decide) | (intro h; dsimp only [ctxD, ctxC] at h; revert h; decide) | (intro i hi; dsimp only [ctxD, ctxC] at *; revert i hi; decide))))))) rss_nil (fun i h => nomatch h))
    (rss_cons (rs_if (rt_eq (RE.wk (re_v (i := 0) rfl (by first | exact .inl rfl | exact .inr (.inl rfl) | exact .inr (.inr rfl)) (by first | decide | (dsimp only [ctxD, ctxC]; decide) | (intro h; dsimp only [ctxD, ctxC] at h; revert h; decide) | (intro i hi; dsimp only [ctxD, ctxC] at *; revert i hi; decide)))) (RE.wk re_int)) (rss_one (rs_ret (re_mk0 mk_NotFinite))) rss_nil (fun i h => nomatch h))
    (rss_cons (rs_if (rt_eq (RE.wk (re_v (i := 0) rfl (by first | exact .inl rfl | exact .inr (.inl rfl) | exact .inr (.inr rfl)) (by first | decide | (dsimp only [ctxD, ctxC]; decide) | (intro h; dsimp only [ctxD, ctxC] at h; revert h; decide) | (intro i hi; dsimp only [ctxD, ctxC] at *; revert i hi; decide)))) (RE.wk re_int)) (rss_one (rs_ret (re_mk0 mk_NothingToUndo))) rss_nil (fun i h => nomatch h))
    (rss_one (rs_ret (re_if (rt_eq (RE.wk (re_v (i := 0) rfl (by first | exact .inl rfl | exact .inr (.inl rfl) | exact .inr (.inr rfl)) (by first | decide | (dsimp only [ctxD, ctxC]; decide) | (intro h; dsimp only [ctxD, ctxC] at h; revert h; decide) | (intro i hi; dsimp only [ctxD, ctxC] at *; revert i hi; decide)))) (RE.wk re_int)) (re_mk0 mk_NothingToRedo) (re_mk0 mk_NoPicture)))))))))) (by first | decide | (dsimp only [ctxD, ctxC]; decide) | (intro h; dsimp only [ctxD, ctxC] at h; revert h; decide) | (intro i hi; dsimp only [ctxD, ctxC] at *; revert i hi; decide)) (fun h => nomatch h)

abbrev s__law_kept : Stmt := topS 34
theorem sc__law_kept : FnScope ["number", "error"] ["number", "error"] (defScope s__law_kept) := ⟨rfl, rfl, rfl, by decide +kernel, rfl, by decide +kernel, by decide +kernel⟩
def b__law_kept (K : PySem.W.Frag) (C : Nat → Addr) : SM :=
  (sSeq (sIf (bV (eB dEq (eV 0) (eC (.int 17)))) (sRet (eF dLst (aC (eAt (cs C) "index" (eV 1)) aN))) sNx)
    (sSeq (sIf (bV (eB dEq (eV 0) (eC (.int 18)))) (sRet (eF dLst (aC (eAt (cs C) "spot" (eV 1)) aN))) sNx)
    (sRet (eI (bV (eB dLt (eV 0) (eC (.int 17)))) (eF dLst (aC (eAt (cs C) "given" (eV 1)) aN)) (eF dLst aN)))))
def d__law_kept (K : PySem.W.Frag) (C : Nat → Addr) : List D → Option (D × D) := runD 2 2 (b__law_kept K C)
theorem ok__law_kept {k : Nat} {f : Addr} {fd : FuncData}  (F : L2.Fun K "_law_kept" "_law_kept" s__law_kept f fd)
    (fld_index : ∀ D ∈ cs C, FldK K D "index") (fld_spot : ∀ D ∈ cs C, FldK K D "spot") (fld_given : ∀ D ∈ cs C, FldK K D "given") :
    FnG P w K mg base CX0 (k + 1) f fd ["number", "error"] (spD 2 false (d__law_kept K C)) :=
  def_ok F sc__law_kept (os := []) (new := false) (show RSs (ctxD P w K mg base ["number", "error"] s__law_kept k none []) false [] (defBody s__law_kept) (b__law_kept K C) from
    (rss_cons (rs_if (rt_eq (RE.wk (re_v (i := 0) rfl (by first | exact .inl rfl | exact .inr (.inl rfl) | exact .inr (.inr rfl)) (by first | decide | (dsimp only [ctxD, ctxC]; decide) | (intro h; dsimp only [ctxD, ctxC] at h; revert h; decide) | (intro i hi; dsimp only [ctxD, ctxC] at *; revert i hi; decide)))) (RE.wk re_int)) (rss_one (rs_ret (RN.re (rn_lst (ras_cons (re_fld fld_index (re_v (i := 1) rfl (by first | exact .inl rfl | exact .inr (.inl rfl) | exact .inr (.inr rfl)) (by first | decide | (dsimp only [ctxD, ctxC]; decide) | (intro h; dsimp only [ctxD, ctxC] at h; revert h; decide) | (intro i hi; dsimp only [ctxD, ctxC] at *; revert i hi; decide)))) ras_nil))))) rss_nil (fun i h => nomatch h))
    (rss_cons (rs_if (rt_eq (RE.wk (re_v (i := 0) rfl (by first | exact .inl rfl | exact .inr (.inl rfl) | exact .inr (.inr rfl)) (by first | decide | (dsimp only [ctxD, ctxC]; decide) | (intro h; dsimp only [ctxD, ctxC] at h; revert h; decide) | (intro i hi; dsimp only [ctxD, ctxC] at *; revert i hi; decide)))) (RE.wk re_int)) (rss_one (rs_ret (RN.re (rn_lst (ras_cons (re_fld fld_spot (re_v (i := 1) rfl (by first | exact .inl rfl | exact .inr (.inl rfl) | exact .inr (.inr rfl)) (by first | decide | (dsimp only [ctxD, ctxC]; decide) | (intro h; dsimp only [ctxD, ctxC] at h; revert h; decide) | (intro i hi; dsimp only [ctxD, ctxC] at *; revert i hi; decide)))) ras_nil))))) rss_nil (fun i h => nomatch h))
    (rss_one (rs_ret (RN.re (rn_if (rt_lt (RE.wk (re_v (i := 0) rfl (by first | exact .inl rfl | exact .inr (.inl rfl) | exact .inr (.inr rfl)) (by first | decide | (dsimp only [ctxD, ctxC]; decide) | (intro h; dsimp only [ctxD, ctxC] at h; revert h; decide) | (intro i hi; dsimp only [ctxD, ctxC] at *; revert i hi; decide)))) (RE.wk re_int)) (rn_lst (ras_cons (re_fld fld_given (re_v (i := 1) rfl (by first | exact .inl rfl | exact .inr (.inl rfl) | exact .inr (.inr rfl)) (by first | decide | (dsimp only [ctxD, ctxC]; decide) | (intro h; dsimp only [ctxD, ctxC] at h; revert h; decide) | (intro i hi; dsimp only [ctxD, ctxC] at *; revert i hi; decide)))) ras_nil)) (rn_lst ras_nil)))))))) (by first | decide | (dsimp only [ctxD, ctxC]; decide) | (intro h; dsimp only [ctxD, ctxC] at h; revert h; decide) | (intro i hi; dsimp only [ctxD, ctxC] at *; revert i hi; decide)) (fun h => nomatch h)

abbrev s__law_of_classes : Stmt := topS 35
theorem sc__law_of_classes : FnScope ["error", "found"] ["error"] (defScope s__law_of_classes) := ⟨rfl, rfl, rfl, by decide +kernel, rfl, by decide +kernel, by decide +kernel⟩
def b__law_of_classes (K : PySem.W.Frag) (C : Nat → Addr) : SM :=
  (sSeq (sSet 1 (eF dLst (aC (eIs (isOf K (cs C) (.ref (C 0))) (eV 0)) (aC (eIs (isOf K (cs C) (.ref (C 1))) (eV 0)) (aC (eIs (isOf K (cs C) (.ref (C 2))) (eV 0)) aN)))))
    (sSeq (sSet 1 (eB dCat (eV 1) (eF dLst (aC (eIs (isOf K (cs C) (.ref (C 3))) (eV 0)) (aC (eIs (isOf K (cs C) (.ref (C 4))) (eV 0)) (aC (eIs (isOf K (cs C) (.ref (C 5))) (eV 0)) aN))))))
    (sSeq (sSet 1 (eB dCat (eV 1) (eF dLst (aC (eIs (isOf K (cs C) (.ref (C 6))) (eV 0)) (aC (eIs (isOf K (cs C) (.ref (C 7))) (eV 0)) (aC (eIs (isOf K (cs C) (.ref (C 8))) (eV 0)) aN))))))
    (sSeq (sSet 1 (eB dCat (eV 1) (eF dLst (aC (eIs (isOf K (cs C) (.ref (C 9))) (eV 0)) (aC (eIs (isOf K (cs C) (.ref (C 10))) (eV 0)) (aC (eIs (isOf K (cs C) (.ref (C 11))) (eV 0)) aN))))))
    (sSeq (sSet 1 (eB dCat (eV 1) (eF dLst (aC (eIs (isOf K (cs C) (.ref (C 12))) (eV 0)) (aC (eIs (isOf K (cs C) (.ref (C 13))) (eV 0)) aN)))))
    (sSeq (sSet 1 (eB dCat (eV 1) (eF dLst (aC (eIs (isOf K (cs C) (.ref (C 14))) (eV 0)) (aC (eIs (isOf K (cs C) (.ref (C 15))) (eV 0)) (aC (eIs (isOf K (cs C) (.ref (C 16))) (eV 0)) aN))))))
    (sSeq (sSet 1 (eB dCat (eV 1) (eF dLst (aC (eIs (isOf K (cs C) (.ref (C 17))) (eV 0)) (aC (eIs (isOf K (cs C) (.ref (C 18))) (eV 0)) (aC (eIs (isOf K (cs C) (.ref (C 19))) (eV 0)) aN))))))
    (sRet (eB dCat (eV 1) (eF dLst (aC (eIs (isOf K (cs C) (.ref (C 20))) (eV 0)) (aC (eIs (isOf K (cs C) (.ref (C 21))) (eV 0)) (aC (eIs (isOf K (cs C) (.ref (C 22))) (eV 0)) aN)))))))))))))
def d__law_of_classes (K : PySem.W.Frag) (C : Nat → Addr) : List D → Option (D × D) := runD 1 2 (b__law_of_classes K C)
theorem ok__law_of_classes {k : Nat} {f : Addr} {fd : FuncData}  (F : L2.Fun K "_law_of_classes" "_law_of_classes" s__law_of_classes f fd)
    (hcs : ∀ D ∈ cs C, ExcC K D) (gc_InvalidVector : mg ("InvalidVector" : Str) = some (.ref (C 2))) (gc_InvalidType : mg ("InvalidType" : Str) = some (.ref (C 1))) (gc_InvalidMatrix : mg ("InvalidMatrix" : Str) = some (.ref (C 0))) (gc_InvalidNodes : mg ("InvalidNodes" : Str) = some (.ref (C 5))) (gc_InvalidNode : mg ("InvalidNode" : Str) = some (.ref (C 4))) (gc_InvalidRoot : mg ("InvalidRoot" : Str) = some (.ref (C 3))) (gc_InvalidSum : mg ("InvalidSum" : Str) = some (.ref (C 8))) (gc_InvalidWord : mg ("InvalidWord" : Str) = some (.ref (C 7))) (gc_InvalidWeight : mg ("InvalidWeight" : Str) = some (.ref (C 6))) (gc_InvalidPath : mg ("InvalidPath" : Str) = some (.ref (C 11))) (gc_InvalidCount : mg ("InvalidCount" : Str) = some (.ref (C 10))) (gc_InvalidTable : mg ("InvalidTable" : Str) = some (.ref (C 9))) (gc_InvalidDeed : mg ("InvalidDeed" : Str) = some (.ref (C 13))) (gc_InvalidExpression : mg ("InvalidExpression" : Str) = some (.ref (C 12))) (gc_TooMany : mg ("TooMany" : Str) = some (.ref (C 16))) (gc_NotAlike : mg ("NotAlike" : Str) = some (.ref (C 15))) (gc_InvalidBook : mg ("InvalidBook" : Str) = some (.ref (C 14))) (gc_NotFinite : mg ("NotFinite" : Str) = some (.ref (C 19))) (gc_BadText : mg ("BadText" : Str) = some (.ref (C 18))) (gc_InvalidLines : mg ("InvalidLines" : Str) = some (.ref (C 17))) (gc_NoPicture : mg ("NoPicture" : Str) = some (.ref (C 22))) (gc_NothingToRedo : mg ("NothingToRedo" : Str) = some (.ref (C 21))) (gc_NothingToUndo : mg ("NothingToUndo" : Str) = some (.ref (C 20))) (m_isinstance : mg ("isinstance" : Str) = none) :
    FnG P w K mg base CX0 (k + 1) f fd ["error"] (spD 1 false (d__law_of_classes K C)) :=
  def_ok F sc__law_of_classes (os := []) (new := false) (show RSs (ctxD P w K mg base ["error", "found"] s__law_of_classes k none []) false [] (defBody s__law_of_classes) (b__law_of_classes K C) from
    (rss_cons (rs_set (i := 1) rfl (by first | exact .inl rfl | exact .inr ⟨rfl, rfl⟩) (by first | decide | (dsimp only [ctxD, ctxC]; decide) | (intro h; dsimp only [ctxD, ctxC] at h; revert h; decide) | (intro i hi; dsimp only [ctxD, ctxC] at *; revert i hi; decide)) (fun i h => nomatch h) (RN.re (rn_lst (ras_cons (re_isI m_isinstance hcs (re_v (i := 0) rfl (by first | exact .inl rfl | exact .inr (.inl rfl) | exact .inr (.inr rfl)) (by first | decide | (dsimp only [ctxD, ctxC]; decide) | (intro h; dsimp only [ctxD, ctxC] at h; revert h; decide) | (intro i hi; dsimp only [ctxD, ctxC] at *; revert i hi; decide))) (cn_own gc_InvalidMatrix)) (ras_cons (re_isI m_isinstance hcs (re_v (i := 0) rfl (by first | exact .inl rfl | exact .inr (.inl rfl) | exact .inr (.inr rfl)) (by first | decide | (dsimp only [ctxD, ctxC]; decide) | (intro h; dsimp only [ctxD, ctxC] at h; revert h; decide) | (intro i hi; dsimp only [ctxD, ctxC] at *; revert i hi; decide))) (cn_own gc_InvalidType)) (ras_cons (re_isI m_isinstance hcs (re_v (i := 0) rfl (by first | exact .inl rfl | exact .inr (.inl rfl) | exact .inr (.inr rfl)) (by first | decide | (dsimp only [ctxD, ctxC]; decide) | (intro h; dsimp only [ctxD, ctxC] at h; revert h; decide) | (intro i hi; dsimp only [ctxD, ctxC] at *; revert i hi; decide))) (cn_own gc_InvalidVector)) ras_nil))))))
    (rss_cons (rs_set (i := 1) rfl (by first | exact .inl rfl | exact .inr ⟨rfl, rfl⟩) (by first | decide | (dsimp only [ctxD, ctxC]; decide) | (intro h; dsimp only [ctxD, ctxC] at h; revert h; decide) | (intro i hi; dsimp only [ctxD, ctxC] at *; revert i hi; decide)) (fun i h => nomatch h) (RN.re (rn_cat (RE.wk (re_v (i := 1) rfl (by first | exact .inl rfl | exact .inr (.inl rfl) | exact .inr (.inr rfl)) (by first | decide | (dsimp only [ctxD, ctxC]; decide) | (intro h; dsimp only [ctxD, ctxC] at h; revert h; decide) | (intro i hi; dsimp only [ctxD, ctxC] at *; revert i hi; decide)))) (RE.wk (RN.re (rn_lst (ras_cons (re_isI m_isinstance hcs (re_v (i := 0) rfl (by first | exact .inl rfl | exact .inr (.inl rfl) | exact .inr (.inr rfl)) (by first | decide | (dsimp only [ctxD, ctxC]; decide) | (intro h; dsimp only [ctxD, ctxC] at h; revert h; decide) | (intro i hi; dsimp only [ctxD, ctxC] at *; revert i hi; decide))) (cn_own gc_InvalidRoot)) (ras_cons (re_isI m_isinstance hcs (re_v (i := 0) rfl (by first | exact .inl rfl | exact .inr (.inl rfl) | exact .inr (.inr rfl)) (by first | decide | (dsimp only [ctxD, ctxC]; decide) | (intro h; dsimp only [ctxD, ctxC] at h; revert h; decide) | (intro i hi; dsimp only [ctxD, ctxC] at *; revert i hi; decide))) (cn_own gc_InvalidNode)) (ras_cons (re_isI m_isinstance hcs (re_v (i := 0) rfl (by first | exact .inl rfl | exact .inr (.inl rfl) | exact .inr (.inr rfl)) (by first | decide | (dsimp only [ctxD, ctxC]; decide) | (intro h; dsimp only [ctxD, ctxC] at h; revert h; decide) | (intro i hi; dsimp only [ctxD, ctxC] at *; revert i hi; decide))) (cn_own gc_InvalidNodes)) ras_nil)))))))))
    (rss_cons (rs_set (i := 1) rfl (by first | exact .inl rfl | exact .inr ⟨rfl, rfl⟩) (by first | decide | (dsimp only [ctxD, ctxC]; decide) | (intro h; dsimp only [ctxD, ctxC] at h; revert h; decide) | (intro i hi; dsimp only [ctxD, ctxC] at *; revert i hi; decide)) (fun i h => nomatch h) (RN.re (rn_cat (RE.wk (re_v (i := 1) rfl (by first | exact .inl rfl | exact .inr (.inl rfl) | exact .inr (.inr rfl)) (by first | decide | (dsimp only [ctxD, ctxC]; decide) | (intro h; dsimp only [ctxD, ctxC] at h; revert h; decide) | (intro i hi; dsimp only [ctxD, ctxC] at *; revert i hi; decide)))) (RE.wk (RN.re (rn_lst (ras_cons (re_isI m_isinstance hcs (re_v (i := 0) rfl (by first | exact .inl rfl | exact .inr (.inl rfl) | exact .inr (.inr rfl)) (by first | decide | (dsimp only [ctxD, ctxC]; decide) | (intro h; dsimp only [ctxD, ctxC] at h; revert h; decide) | (intro i hi; dsimp only [ctxD, ctxC] at *; revert i hi; decide))) (cn_own gc_InvalidWeight)) (ras_cons (re_isI m_isinstance hcs (re_v (i := 0) rfl (by first | exact .inl rfl | exact .inr (.inl rfl) | exact .inr (.inr rfl)) (by first | decide | (dsimp only [ctxD, ctxC]; decide) | (intro h; dsimp only [ctxD, ctxC] at h; revert h; decide) | (intro i hi; dsimp only [ctxD, ctxC] at *; revert i hi; decide))) (cn_own gc_InvalidWord)) (ras_cons (re_isI m_isinstance hcs (re_v (i := 0) rfl (by first | exact .inl rfl | exact .inr (.inl rfl) | exact .inr (.inr rfl)) (by first | decide | (dsimp only [ctxD, ctxC]; decide) | (intro h; dsimp only [ctxD, ctxC] at h; revert h; decide) | (intro i hi; dsimp only [ctxD, ctxC] at *; revert i hi; decide))) (cn_own gc_InvalidSum)) ras_nil)))))))))
    (rss_cons (rs_set (i := 1) rfl (by first | exact .inl rfl | exact .inr ⟨rfl, rfl⟩) (by first | decide | (dsimp only [ctxD, ctxC]; decide) | (intro h; dsimp only [ctxD, ctxC] at h; revert h; decide) | (intro i hi; dsimp only [ctxD, ctxC] at *; revert i hi; decide)) (fun i h => nomatch h) (RN.re (rn_cat (RE.wk (re_v (i := 1) rfl (by first | exact .inl rfl | exact .inr (.inl rfl) | exact .inr (.inr rfl)) (by first | decide | (dsimp only [ctxD, ctxC]; decide) | (intro h; dsimp only [ctxD, ctxC] at h; revert h; decide) | (intro i hi; dsimp only [ctxD, ctxC] at *; revert i hi; decide)))) (RE.wk (RN.re (rn_lst (ras_cons (re_isI m_isinstance hcs (re_v (i := 0) rfl (by first | exact .inl rfl | exact .inr (.inl rfl) | exact .inr (.inr rfl)) (by first | decide | (dsimp only [ctxD, ctxC]; decide) | (intro h; dsimp only [ctxD, ctxC] at h; revert h; decide) | (intro i hi; dsimp only [ctxD, ctxC] at *; revert i hi; decide))) (cn_own gc_InvalidTable)) (ras_cons (re_isI m_isinstance hcs (re_v (i := 0) rfl (by first | exact .inl rfl | exact .inr (.inl rfl) | exact .inr (.inr rfl)) (by first | decide | (dsimp only [ctxD, ctxC]; decide) | (intro h; dsimp only [ctxD, ctxC] at h; revert h; decide) | (intro i hi; dsimp only [ctxD, ctxC] at *; revert i hi; decide))) (cn_own gc_InvalidCount)) (ras_cons (re_isI m_isinstance hcs (re_v (i := 0) rfl (by first | exact .inl rfl | exact .inr (.inl rfl) | exact .inr (.inr rfl)) (by first | decide | (dsimp only [ctxD, ctxC]; decide) | (intro h; dsimp only [ctxD, ctxC] at h; revert h; decide) | (intro i hi; dsimp only [ctxD, ctxC] at *; revert i hi; decide))) (cn_own gc_InvalidPath)) ras_nil)))))))))
    (rss_cons (rs_set (i := 1) rfl (by first | exact .inl rfl | exact .inr ⟨rfl, rfl⟩) (by first | decide | (dsimp only [ctxD, ctxC]; decide) | (intro h; dsimp only [ctxD, ctxC] at h; revert h; decide) | (intro i hi; dsimp only [ctxD, ctxC] at *; revert i hi; decide)) (fun i h => nomatch h) (RN.re (rn_cat (RE.wk (re_v (i := 1) rfl (by first | exact .inl rfl | exact .inr (.inl rfl) | exact .inr (.inr rfl)) (by first | decide | (dsimp only [ctxD, ctxC]; decide) | (intro h; dsimp only [ctxD, ctxC] at h; revert h; decide) | (intro i hi; dsimp only [ctxD, ctxC] at *; revert i hi; decide)))) (RE.wk (RN.re (rn_lst (ras_cons (re_isI m_isinstance hcs (re_v (i := 0) rfl (by first | exact .inl rfl | exact .inr (.inl rfl) | exact .inr (.inr rfl)) (by first | decide | (dsimp only [ctxD, ctxC]; decide) | (intro h; dsimp only [ctxD, ctxC] at h; revert h; decide) | (intro i hi; dsimp only [ctxD, ctxC] at *; revert i hi; decide))) (cn_own gc_InvalidExpression)) (ras_cons (re_isI m_isinstance hcs (re_v (i := 0) rfl (by first | exact .inl rfl | exact .inr (.inl rfl) | exact .inr (.inr rfl)) (by first | decide | (dsimp only [ctxD, ctxC]; decide) | (intro h; dsimp only [ctxD, ctxC] at h; revert h; decide) | (intro i hi; dsimp only [ctxD, ctxC] at *; revert i hi; decide))) (cn_own gc_InvalidDeed)) ras_nil))))))))
    (rss_cons (rs_set (i := 1) rfl (by first | exact .inl rfl | exact .inr ⟨rfl, rfl⟩) (by first | decide | (dsimp only [ctxD, ctxC]; decide) | (intro h; dsimp only [ctxD, ctxC] at h; revert h; decide) | (intro i hi; dsimp only [ctxD, ctxC] at *; revert i hi; decide)) (fun i h => nomatch h) (RN.re (rn_cat (RE.wk (re_v (i := 1) rfl (by first | exact .inl rfl | exact .inr (.inl rfl) | exact .inr (.inr rfl)) (by first | decide | (dsimp only [ctxD, ctxC]; decide) | (intro h; dsimp only [ctxD, ctxC] at h; revert h; decide) | (intro i hi; dsimp only [ctxD, ctxC] at *; revert i hi; decide)))) (RE.wk (RN.re (rn_lst (ras_cons (re_isI m_isinstance hcs (re_v (i := 0) rfl (by first | exact .inl rfl | exact .inr (.inl rfl) | exact .inr (.inr rfl)) (by first | decide | (dsimp only [ctxD, ctxC]; decide) | (intro h; dsimp only [ctxD, ctxC] at h; revert h; decide) | (intro i hi; dsimp only [ctxD, ctxC] at *; revert i hi; decide))) (cn_own gc_InvalidBook)) (ras_cons (re_isI m_isinstance hcs (re_v (i := 0) rfl (by first | exact .inl rfl | exact .inr (.inl rfl) | exact .inr (.inr rfl)) (by first | decide | (dsimp only [ctxD, ctxC]; decide) | (intro h; dsimp only [ctxD, ctxC] at h; revert h; decide) | (intro i hi; dsimp only [ctxD, ctxC] at *; revert i hi; decide))) (cn_own gc_NotAlike)) (ras_cons (re_isI m_isinstance hcs (re_v (i := 0) rfl (by first | exact .inl rfl | exact .inr (.inl rfl) | exact .inr (.inr rfl)) (by first | decide | (dsimp only [ctxD, ctxC]; decide) | (intro h; dsimp only [ctxD, ctxC] at h; revert h; decide) | (intro i hi; dsimp only [ctxD, ctxC] at *; revert i hi; decide))) (cn_own gc_TooMany)) ras_nil)))))))))
    (rss_cons (rs_set (i := 1) rfl (by first | exact .inl rfl | exact .inr ⟨rfl, rfl⟩) (by first | decide | (dsimp only [ctxD, ctxC]; decide) | (intro h; dsimp only [ctxD, ctxC] at h; revert h; decide) | (intro i hi; dsimp only [ctxD, ctxC] at *; revert i hi; decide)) (fun i h => nomatch h) (RN.re (rn_cat (RE.wk (re_v (i := 1) rfl (by first | exact .inl rfl | exact .inr (.inl rfl) | exact .inr (.inr rfl)) (by first | decide | (dsimp only [ctxD, ctxC]; decide) | (intro h; dsimp only [ctxD, ctxC] at h; revert h; decide) | (intro i hi; dsimp only [ctxD, ctxC] at *; revert i hi; decide)))) (RE.wk (RN.re (rn_lst (ras_cons (re_isI m_isinstance hcs (re_v (i := 0) rfl (by first | exact .inl rfl | exact .inr (.inl rfl) | exact .inr (.inr rfl)) (by first | decide | (dsimp only [ctxD, ctxC]; decide) | (intro h; dsimp only [ctxD, ctxC] at h; revert h; decide) | (intro i hi; dsimp only [ctxD, ctxC] at *; revert i hi; decide))) (cn_own gc_InvalidLines)) (ras_cons (re_isI m_isinstance hcs (re_v (i := 0) rfl (by first | exact .inl rfl | exact .inr (.inl rfl) | exact .inr (.inr rfl)) (by first | decide | (dsimp only [ctxD, ctxC]; decide) | (intro h; dsimp only [ctxD, ctxC] at h; revert h; decide) | (intro i hi; dsimp only [ctxD, ctxC] at *; revert i hi; decide))) (cn_own gc_BadText)) (ras_cons (re_isI m_isinstance hcs (re_v (i := 0) rfl (by first | exact .inl rfl | exact .inr (.inl rfl) | exact .inr (.inr rfl)) (by first | decide | (dsimp only [ctxD, ctxC]; decide) | (intro h; dsimp only [ctxD, ctxC] at h; revert h; decide) | (intro i hi; dsimp only [ctxD, ctxC] at *; revert i hi; decide))) (cn_own gc_NotFinite)) ras_nil)))))))))
    (rss_one (rs_ret (RN.re (rn_cat (RE.wk (re_v (i := 1) rfl (by first | exact .inl rfl | exact .inr (.inl rfl) | exact .inr (.inr rfl)) (by first | decide | (dsimp only [ctxD, ctxC]; decide) | (intro h; dsimp only [ctxD, ctxC] at h; revert h; decide) | (intro i hi; dsimp only [ctxD, ctxC] at *; revert i hi; decide)))) (RE.wk (RN.re (rn_lst (ras_cons (re_isI m_isinstance hcs (re_v (i := 0) rfl (by first | exact .inl rfl | exact .inr (.inl rfl) | exact .inr (.inr rfl)) (by first | decide | (dsimp only [ctxD, ctxC]; decide) | (intro h; dsimp only [ctxD, ctxC] at h; revert h; decide) | (intro i hi; dsimp only [ctxD, ctxC] at *; revert i hi; decide))) (cn_own gc_NothingToUndo)) (ras_cons (re_isI m_isinstance hcs (re_v (i := 0) rfl (by first | exact .inl rfl | exact .inr (.inl rfl) | exact .inr (.inr rfl)) (by first | decide | (dsimp only [ctxD, ctxC]; decide) | (intro h; dsimp only [ctxD, ctxC] at h; revert h; decide) | (intro i hi; dsimp only [ctxD, ctxC] at *; revert i hi; decide))) (cn_own gc_NothingToRedo)) (ras_cons (re_isI m_isinstance hcs (re_v (i := 0) rfl (by first | exact .inl rfl | exact .inr (.inl rfl) | exact .inr (.inr rfl)) (by first | decide | (dsimp only [ctxD, ctxC]; decide) | (intro h; dsimp only [ctxD, ctxC] at h; revert h; decide) | (intro i hi; dsimp only [ctxD, ctxC] at *; revert i hi; decide))) (cn_own gc_NoPicture)) ras_nil)))))))))))))))))) (by first | decide | (dsimp only [ctxD, ctxC]; decide) | (intro h; dsimp only [ctxD, ctxC] at h; revert h; decide) | (intro i hi; dsimp only [ctxD, ctxC] at *; revert i hi; decide)) (fun h => nomatch h)

abbrev s__law_is_of : Stmt := topS 36
theorem sc__law_is_of : FnScope ["number", "error", "at"] ["number", "error"] (defScope s__law_is_of) := ⟨rfl, rfl, rfl, by decide +kernel, rfl, by decide +kernel, by decide +kernel⟩
def b__law_is_of (K : PySem.W.Frag) (C : Nat → Addr) : SM :=
  (sSeq (sIf (bOr (bV (eB dNe (eCall yes (d__law_of_classes K C) (aC (eV 1) aN)) (eComp none [2] (aR1 (aC (eC (.int 23)) aN)) (gN 2) bYes (eB dEq (eV 2) (eV 0))))) (bNot (bV (eIs (isOf K (cs C) (.ref (C 23))) (eV 1))))) (sRet (eC (.bool false))) sNx)
    (sSeq (sIf (bOr (bNot (bV (eIs (isOf K (cs C) (.type "ValueError")) (eV 1)))) (bNot (bV (eIs (isOf K (cs C) (.type "Exception")) (eV 1))))) (sRet (eC (.bool false))) sNx)
    (sRet (eNot (eIs (isAny K (cs C) [.type "ArithmeticError", .type "LookupError", .type "TypeError", .type "RuntimeError", .type "AttributeError"]) (eV 1))))))
def d__law_is_of (K : PySem.W.Frag) (C : Nat → Addr) : List D → Option (D × D) := runD 2 3 (b__law_is_of K C)
theorem ok__law_is_of {k : Nat} {f : Addr} {fd : FuncData}  (F : L2.Fun K "_law_is_of" "_law_is_of" s__law_is_of f fd)
    (hcs : ∀ D ∈ cs C, ExcC K D) (gc_WeylError : mg ("WeylError" : Str) = some (.ref (C 23))) (cal__law_of_classes : Cal ⟨P, w, K, mg, base, [], defScope s__law_is_of, k, fun _ => true, none, []⟩ "_law_of_classes" (spD 1 false (d__law_of_classes K C))) (m_ArithmeticError : mg ("ArithmeticError" : Str) = none) (m_AttributeError : mg ("AttributeError" : Str) = none) (m_Exception : mg ("Exception" : Str) = none) (m_LookupError : mg ("LookupError" : Str) = none) (m_RuntimeError : mg ("RuntimeError" : Str) = none) (m_TypeError : mg ("TypeError" : Str) = none) (m_ValueError : mg ("ValueError" : Str) = none) (m_isinstance : mg ("isinstance" : Str) = none) (m_range : mg ("range" : Str) = none) :
    FnG P w K mg base CX0 (k + 1) f fd ["number", "error"] (spD 2 false (d__law_is_of K C)) :=
  def_ok F sc__law_is_of (os := []) (new := false) (show RSs (ctxD P w K mg base ["number", "error", "at"] s__law_is_of k none []) false [] (defBody s__law_is_of) (b__law_is_of K C) from
    (rss_cons (rs_if (RTw.rt (rt_or (rt_ne (RE.wk (re_call ⟨cal__law_of_classes.ex⟩ rfl (ras_cons (re_v (i := 1) rfl (by first | exact .inl rfl | exact .inr (.inl rfl) | exact .inr (.inr rfl)) (by first | decide | (dsimp only [ctxD, ctxC]; decide) | (intro h; dsimp only [ctxD, ctxC] at h; revert h; decide) | (intro i hi; dsimp only [ctxD, ctxC] at *; revert i hi; decide))) ras_nil) (hl := (aC_len aN_len)))) (RE.wk (RN.re (rn_comp (fb := []) (own := [(("at" : Str), 2)]) (vs := [2]) (fun i h => nomatch h) (by first | decide | (dsimp only [ctxD, ctxC]; decide) | (intro h; dsimp only [ctxD, ctxC] at h; revert h; decide) | (intro i hi; dsimp only [ctxD, ctxC] at *; revert i hi; decide)) (blkOk_by (by first | decide +kernel | (dsimp only [ctxD, ctxC]; decide +kernel))) rfl (hi := (ri_range1 (ra_cons (RE.wk re_int) ra_nil) m_range)) (hg := (rg_n (i := 2) rfl (by first | exact .inl rfl | exact .inr ⟨rfl, rfl⟩) (by first | decide | (dsimp only [ctxD, ctxC]; decide) | (intro h; dsimp only [ctxD, ctxC] at h; revert h; decide) | (intro i hi; dsimp only [ctxD, ctxC] at *; revert i hi; decide)))) (ht := rts_nil) (he := (re_eq (RE.wk (re_v (i := 2) rfl (by first | exact .inl rfl | exact .inr (.inl rfl) | exact .inr (.inr rfl)) (by first | decide | (dsimp only [ctxD, ctxC]; decide) | (intro h; dsimp only [ctxD, ctxC] at h; revert h; decide) | (intro i hi; dsimp only [ctxD, ctxC] at *; revert i hi; decide)))) (RE.wk (re_v (i := 0) rfl (by first | exact .inl rfl | exact .inr (.inl rfl) | exact .inr (.inr rfl)) (by first | decide | (dsimp only [ctxD, ctxC]; decide) | (intro h; dsimp only [ctxD, ctxC] at h; revert h; decide) | (intro i hi; dsimp only [ctxD, ctxC] at *; revert i hi; decide)))))))))) (rt_or1 (rt_not (rt_val (re_isI m_isinstance hcs (re_v (i := 1) rfl (by first | exact .inl rfl | exact .inr (.inl rfl) | exact .inr (.inr rfl)) (by first | decide | (dsimp only [ctxD, ctxC]; decide) | (intro h; dsimp only [ctxD, ctxC] at h; revert h; decide) | (intro i hi; dsimp only [ctxD, ctxC] at *; revert i hi; decide))) (cn_own gc_WeylError))))))) (rss_one (rs_ret re_bl)) rss_nil (fun i h => nomatch h))
    (rss_cons (rs_if (RTw.rt (rt_or (rt_not (rt_val (re_isI m_isinstance hcs (re_v (i := 1) rfl (by first | exact .inl rfl | exact .inr (.inl rfl) | exact .inr (.inr rfl)) (by first | decide | (dsimp only [ctxD, ctxC]; decide) | (intro h; dsimp only [ctxD, ctxC] at h; revert h; decide) | (intro i hi; dsimp only [ctxD, ctxC] at *; revert i hi; decide))) (cn_ty m_ValueError (by decide +kernel))))) (rt_or1 (rt_not (rt_val (re_isI m_isinstance hcs (re_v (i := 1) rfl (by first | exact .inl rfl | exact .inr (.inl rfl) | exact .inr (.inr rfl)) (by first | decide | (dsimp only [ctxD, ctxC]; decide) | (intro h; dsimp only [ctxD, ctxC] at h; revert h; decide) | (intro i hi; dsimp only [ctxD, ctxC] at *; revert i hi; decide))) (cn_ty m_Exception (by decide +kernel)))))))) (rss_one (rs_ret re_bl)) rss_nil (fun i h => nomatch h))
    (rss_one (rs_ret (re_not (re_isT (ws := [.ty "ArithmeticError", .ty "LookupError", .ty "TypeError", .ty "RuntimeError", .ty "AttributeError"]) m_isinstance hcs (re_v (i := 1) rfl (by first | exact .inl rfl | exact .inr (.inl rfl) | exact .inr (.inr rfl)) (by first | decide | (dsimp only [ctxD, ctxC]; decide) | (intro h; dsimp only [ctxD, ctxC] at h; revert h; decide) | (intro i hi; dsimp only [ctxD, ctxC] at *; revert i hi; decide))) (by first | decide | (dsimp only [ctxD, ctxC]; decide) | (intro h; dsimp only [ctxD, ctxC] at h; revert h; decide) | (intro i hi; dsimp only [ctxD, ctxC] at *; revert i hi; decide)) (.cons (.ty _) (.cons (.ty _) (.cons (.ty _) (.cons (.ty _) (.cons (.ty _) .nil))))) (fun X h => (pa_cons (pe_bltn (v := .ty "ArithmeticError") (u := .type "ArithmeticError") (by show X.env.scope.names.lookup _ = _; rw [h.sc]; rfl) (by rw [h.mg]; exact m_ArithmeticError) (by decide +kernel) rfl) (pa_cons (pe_bltn (v := .ty "LookupError") (u := .type "LookupError") (by show X.env.scope.names.lookup _ = _; rw [h.sc]; rfl) (by rw [h.mg]; exact m_LookupError) (by decide +kernel) rfl) (pa_cons (pe_bltn (v := .ty "TypeError") (u := .type "TypeError") (by show X.env.scope.names.lookup _ = _; rw [h.sc]; rfl) (by rw [h.mg]; exact m_TypeError) (by decide +kernel) rfl) (pa_cons (pe_bltn (v := .ty "RuntimeError") (u := .type "RuntimeError") (by show X.env.scope.names.lookup _ = _; rw [h.sc]; rfl) (by rw [h.mg]; exact m_RuntimeError) (by decide +kernel) rfl) (pa_cons (pe_bltn (v := .ty "AttributeError") (u := .type "AttributeError") (by show X.env.scope.names.lookup _ = _; rw [h.sc]; rfl) (by rw [h.mg]; exact m_AttributeError) (by decide +kernel) rfl) pa_nil))))))))))))) (by first | decide | (dsimp only [ctxD, ctxC]; decide) | (intro h; dsimp only [ctxD, ctxC] at h; revert h; decide) | (intro i hi; dsimp only [ctxD, ctxC] at *; revert i hi; decide)) (fun h => nomatch h)

abbrev s__law_are_right : Stmt := topS 37
theorem sc__law_are_right : FnScope ["pot", "first", "turn", "numbers", "errors", "second", "things", "number", "error", "thing"] ["pot", "first"] (defScope s__law_are_right) := ⟨rfl, rfl, rfl, by decide +kernel, rfl, by decide +kernel, by decide +kernel⟩
def b__law_are_right (K : PySem.W.Frag) (C : Nat → Addr) : SM :=
  (sSeq (sPar 5 6 (eCallP 0 yes yes d__law_draw (aC (eC (.int 23)) aN)) (eF dLst aN))
    (sSeq (sFor (aR1 (aC (eC (.int 3)) aN)) (gN 2) (sUpd 6 (eCallP 0 yes yes d_thing2 (aC (eC (.int 2)) aN)) appD))
    (sSeq (sSet 3 (eF dLst (aC (eV 1) (aC (eV 5) (aC (eV 1) aN)))))
    (sSeq (sSet 4 (eF dLst (aC (eCall yes (d__law_made K C) (aC (eV 1) (aC (eB dIx (eV 6) (eC (.int 0))) (aC (eC (.bool false)) aN)))) (aC (eCall yes (d__law_made K C) (aC (eV 5) (aC (eB dIx (eV 6) (eC (.int 1))) (aC (eC (.bool true)) aN)))) (aC (eCall yes (d__law_made K C) (aC (eV 1) (aC (eB dIx (eV 6) (eC (.int 2))) (aC (eC (.bool true)) aN)))) aN)))))
    (sSeq (sFor (aZ3 (aC (eV 3) (aC (eV 4) (aC (eV 6) aN)))) (gT [(gN 7), (gN 8), (gN 9)]) (sSeq (sIf (bNot (bV (eCall yes (d__law_is_of K C) (aC (eV 7) (aC (eV 8) aN))))) (sRet (eC (.bool false))) sNx)
    (sIf (bV (eB dNe (eF (f1 dRepr) (aC (eCall yes (d__law_kept K C) (aC (eV 7) (aC (eV 8) aN))) aN)) (eF (f1 dRepr) (aC (eI (bV (eB dLt (eV 7) (eC (.int 19)))) (eF dLst (aC (eV 9) aN)) (eF dLst aN)) aN)))) (sRet (eC (.bool false))) sNx)))
    (sRet (eC (.bool true))))))))
def d__law_are_right (K : PySem.W.Frag) (C : Nat → Addr) : List D → Option (D × D) := runP 2 10 (b__law_are_right K C)
theorem ok__law_are_right {k : Nat} {f : Addr} {fd : FuncData}  (F : L2.Fun K "_law_are_right" "_law_are_right" s__law_are_right f fd)
    (cal__law_draw : Cal ⟨P, w, K, mg, base, [], defScope s__law_are_right, k, fun _ => true, none, []⟩ "_law_draw" (spP 2 false d__law_draw)) (cal__law_thing : Cal ⟨P, w, K, mg, base, [], defScope s__law_are_right, k, fun _ => true, none, []⟩ "_law_thing" (spP 2 false d_thing2)) (cal__law_made : Cal ⟨P, w, K, mg, base, [], defScope s__law_are_right, k, fun _ => true, none, []⟩ "_law_made" (spD 3 false (d__law_made K C))) (cal__law_is_of : Cal ⟨P, w, K, mg, base, [], defScope s__law_are_right, k, fun _ => true, none, []⟩ "_law_is_of" (spD 2 false (d__law_is_of K C))) (cal__law_kept : Cal ⟨P, w, K, mg, base, [], defScope s__law_are_right, k, fun _ => true, none, []⟩ "_law_kept" (spD 2 false (d__law_kept K C))) (m_range : mg ("range" : Str) = none) (m_repr : mg ("repr" : Str) = none) (m_zip : mg ("zip" : Str) = none) :
    FnG P w K mg base CX0 (k + 1) f fd ["pot", "first"] (spP 2 false (d__law_are_right K C)) :=
  defP_ok F sc__law_are_right (os := [6]) (new := false) (show RSs (ctxD P w K mg base ["pot", "first", "turn", "numbers", "errors", "second", "things", "number", "error", "thing"] s__law_are_right k (some 0) [0, 6]) false [] (defBody s__law_are_right) (b__law_are_right K C) from
    (rss_cons (rs_parEN (i := 5) (j := 6) rfl rfl (by first | decide | (dsimp only [ctxD, ctxC]; decide) | (intro h; dsimp only [ctxD, ctxC] at h; revert h; decide) | (intro i hi; dsimp only [ctxD, ctxC] at *; revert i hi; decide)) rfl rfl (by first | decide | (dsimp only [ctxD, ctxC]; decide) | (intro h; dsimp only [ctxD, ctxC] at h; revert h; decide) | (intro i hi; dsimp only [ctxD, ctxC] at *; revert i hi; decide)) (by first | decide | (dsimp only [ctxD, ctxC]; decide) | (intro h; dsimp only [ctxD, ctxC] at h; revert h; decide) | (intro i hi; dsimp only [ctxD, ctxC] at *; revert i hi; decide)) (by first | decide | (dsimp only [ctxD, ctxC]; decide) | (intro h; dsimp only [ctxD, ctxC] at h; revert h; decide) | (intro i hi; dsimp only [ctxD, ctxC] at *; revert i hi; decide)) (by first | decide | (dsimp only [ctxD, ctxC]; decide) | (intro h; dsimp only [ctxD, ctxC] at h; revert h; decide) | (intro i hi; dsimp only [ctxD, ctxC] at *; revert i hi; decide)) (fun i h => by cases h; decide) (re_callP (i := 0) ⟨cal__law_draw.ex⟩ rfl (by first | exact .inl rfl | exact .inr (.inl rfl) | exact .inr (.inr rfl)) rfl (ras_cons re_int ras_nil) (aC_len aN_len)) (rn_lst ras_nil) (hw := by intro env h; cases env; cases h; rfl))
    (rss_cons (rs_for (ts := [2]) (fb' := []) (ri_range1 (ra_cons (RE.wk re_int) ra_nil) m_range) (rg_n (i := 2) rfl (by first | exact .inl rfl | exact .inr ⟨rfl, rfl⟩) (by first | decide | (dsimp only [ctxD, ctxC]; decide) | (intro h; dsimp only [ctxD, ctxC] at h; revert h; decide) | (intro i hi; dsimp only [ctxD, ctxC] at *; revert i hi; decide))) (rss_one (rs_app (i := 6) rfl (by first | exact .inl rfl | exact .inr (.inl rfl) | exact .inr (.inr rfl)) (by first | decide | (dsimp only [ctxD, ctxC]; decide) | (intro h; dsimp only [ctxD, ctxC] at h; revert h; decide) | (intro i hi; dsimp only [ctxD, ctxC] at *; revert i hi; decide)) (by first | decide | (dsimp only [ctxD, ctxC]; decide) | (intro h; dsimp only [ctxD, ctxC] at h; revert h; decide) | (intro i hi; dsimp only [ctxD, ctxC] at *; revert i hi; decide)) (fun i h => by cases h; decide) (re_callP (i := 0) ⟨cal__law_thing.ex⟩ rfl (by first | exact .inl rfl | exact .inr (.inl rfl) | exact .inr (.inr rfl)) rfl (ras_cons re_int ras_nil) (aC_len aN_len)))) (by first | decide | (dsimp only [ctxD, ctxC]; decide) | (intro h; dsimp only [ctxD, ctxC] at h; revert h; decide) | (intro i hi; dsimp only [ctxD, ctxC] at *; revert i hi; decide)) (fun i h => by cases h; decide))
    (rss_cons (rs_set (i := 3) rfl (by first | exact .inl rfl | exact .inr ⟨rfl, rfl⟩) (by first | decide | (dsimp only [ctxD, ctxC]; decide) | (intro h; dsimp only [ctxD, ctxC] at h; revert h; decide) | (intro i hi; dsimp only [ctxD, ctxC] at *; revert i hi; decide)) (fun i h => by cases h; decide) (RN.re (rn_lst (ras_cons (re_v (i := 1) rfl (by first | exact .inl rfl | exact .inr (.inl rfl) | exact .inr (.inr rfl)) (by first | decide | (dsimp only [ctxD, ctxC]; decide) | (intro h; dsimp only [ctxD, ctxC] at h; revert h; decide) | (intro i hi; dsimp only [ctxD, ctxC] at *; revert i hi; decide))) (ras_cons (re_v (i := 5) rfl (by first | exact .inl rfl | exact .inr (.inl rfl) | exact .inr (.inr rfl)) (by first | decide | (dsimp only [ctxD, ctxC]; decide) | (intro h; dsimp only [ctxD, ctxC] at h; revert h; decide) | (intro i hi; dsimp only [ctxD, ctxC] at *; revert i hi; decide))) (ras_cons (re_v (i := 1) rfl (by first | exact .inl rfl | exact .inr (.inl rfl) | exact .inr (.inr rfl)) (by first | decide | (dsimp only [ctxD, ctxC]; decide) | (intro h; dsimp only [ctxD, ctxC] at h; revert h; decide) | (intro i hi; dsimp only [ctxD, ctxC] at *; revert i hi; decide))) ras_nil))))))
    (rss_cons (rs_set (i := 4) rfl (by first | exact .inl rfl | exact .inr ⟨rfl, rfl⟩) (by first | decide | (dsimp only [ctxD, ctxC]; decide) | (intro h; dsimp only [ctxD, ctxC] at h; revert h; decide) | (intro i hi; dsimp only [ctxD, ctxC] at *; revert i hi; decide)) (fun i h => by cases h; decide) (RN.re (rn_lst (ras_cons (re_call ⟨cal__law_made.ex⟩ rfl (ras_cons (re_v (i := 1) rfl (by first | exact .inl rfl | exact .inr (.inl rfl) | exact .inr (.inr rfl)) (by first | decide | (dsimp only [ctxD, ctxC]; decide) | (intro h; dsimp only [ctxD, ctxC] at h; revert h; decide) | (intro i hi; dsimp only [ctxD, ctxC] at *; revert i hi; decide))) (ras_cons (re_ix (rw_v (i := 6) rfl (by first | exact .inl rfl | exact .inr (.inl rfl) | exact .inr (.inr rfl)) (by first | decide | (dsimp only [ctxD, ctxC]; decide) | (intro h; dsimp only [ctxD, ctxC] at h; revert h; decide) | (intro i hi; dsimp only [ctxD, ctxC] at *; revert i hi; decide))) re_int) (ras_cons re_bl ras_nil))) (hl := (aC_len (aC_len (aC_len aN_len))))) (ras_cons (re_call ⟨cal__law_made.ex⟩ rfl (ras_cons (re_v (i := 5) rfl (by first | exact .inl rfl | exact .inr (.inl rfl) | exact .inr (.inr rfl)) (by first | decide | (dsimp only [ctxD, ctxC]; decide) | (intro h; dsimp only [ctxD, ctxC] at h; revert h; decide) | (intro i hi; dsimp only [ctxD, ctxC] at *; revert i hi; decide))) (ras_cons (re_ix (rw_v (i := 6) rfl (by first | exact .inl rfl | exact .inr (.inl rfl) | exact .inr (.inr rfl)) (by first | decide | (dsimp only [ctxD, ctxC]; decide) | (intro h; dsimp only [ctxD, ctxC] at h; revert h; decide) | (intro i hi; dsimp only [ctxD, ctxC] at *; revert i hi; decide))) re_int) (ras_cons re_bl ras_nil))) (hl := (aC_len (aC_len (aC_len aN_len))))) (ras_cons (re_call ⟨cal__law_made.ex⟩ rfl (ras_cons (re_v (i := 1) rfl (by first | exact .inl rfl | exact .inr (.inl rfl) | exact .inr (.inr rfl)) (by first | decide | (dsimp only [ctxD, ctxC]; decide) | (intro h; dsimp only [ctxD, ctxC] at h; revert h; decide) | (intro i hi; dsimp only [ctxD, ctxC] at *; revert i hi; decide))) (ras_cons (re_ix (rw_v (i := 6) rfl (by first | exact .inl rfl | exact .inr (.inl rfl) | exact .inr (.inr rfl)) (by first | decide | (dsimp only [ctxD, ctxC]; decide) | (intro h; dsimp only [ctxD, ctxC] at h; revert h; decide) | (intro i hi; dsimp only [ctxD, ctxC] at *; revert i hi; decide))) re_int) (ras_cons re_bl ras_nil))) (hl := (aC_len (aC_len (aC_len aN_len))))) ras_nil))))))
    (rss_cons (rs_for (ts := [7, 8, 9]) (fb' := [6]) (ri_zip3 (ra_cons (RE.wk (re_v (i := 3) rfl (by first | exact .inl rfl | exact .inr (.inl rfl) | exact .inr (.inr rfl)) (by first | decide | (dsimp only [ctxD, ctxC]; decide) | (intro h; dsimp only [ctxD, ctxC] at h; revert h; decide) | (intro i hi; dsimp only [ctxD, ctxC] at *; revert i hi; decide)))) (ra_cons (RE.wk (re_v (i := 4) rfl (by first | exact .inl rfl | exact .inr (.inl rfl) | exact .inr (.inr rfl)) (by first | decide | (dsimp only [ctxD, ctxC]; decide) | (intro h; dsimp only [ctxD, ctxC] at h; revert h; decide) | (intro i hi; dsimp only [ctxD, ctxC] at *; revert i hi; decide)))) (ra_cons (rw_v (i := 6) rfl (by first | exact .inl rfl | exact .inr (.inl rfl) | exact .inr (.inr rfl)) (by first | decide | (dsimp only [ctxD, ctxC]; decide) | (intro h; dsimp only [ctxD, ctxC] at h; revert h; decide) | (intro i hi; dsimp only [ctxD, ctxC] at *; revert i hi; decide))) ra_nil))) (by first | decide | (dsimp only [ctxD, ctxC]; decide) | (intro h; dsimp only [ctxD, ctxC] at h; revert h; decide) | (intro i hi; dsimp only [ctxD, ctxC] at *; revert i hi; decide)) m_zip) (rg_t (n := 3) (rgs_cons (rg_n (i := 7) rfl (by first | exact .inl rfl | exact .inr ⟨rfl, rfl⟩) (by first | decide | (dsimp only [ctxD, ctxC]; decide) | (intro h; dsimp only [ctxD, ctxC] at h; revert h; decide) | (intro i hi; dsimp only [ctxD, ctxC] at *; revert i hi; decide))) (rgs_cons (rg_n (i := 8) rfl (by first | exact .inl rfl | exact .inr ⟨rfl, rfl⟩) (by first | decide | (dsimp only [ctxD, ctxC]; decide) | (intro h; dsimp only [ctxD, ctxC] at h; revert h; decide) | (intro i hi; dsimp only [ctxD, ctxC] at *; revert i hi; decide))) (rgs_cons (rg_n (i := 9) rfl (by first | exact .inl rfl | exact .inr ⟨rfl, rfl⟩) (by first | decide | (dsimp only [ctxD, ctxC]; decide) | (intro h; dsimp only [ctxD, ctxC] at h; revert h; decide) | (intro i hi; dsimp only [ctxD, ctxC] at *; revert i hi; decide))) rgs_nil)))) (rss_cons (rs_if (rt_not (rt_val (re_call ⟨cal__law_is_of.ex⟩ rfl (ras_cons (re_v (i := 7) rfl (by first | exact .inl rfl | exact .inr (.inl rfl) | exact .inr (.inr rfl)) (by first | decide | (dsimp only [ctxD, ctxC]; decide) | (intro h; dsimp only [ctxD, ctxC] at h; revert h; decide) | (intro i hi; dsimp only [ctxD, ctxC] at *; revert i hi; decide))) (ras_cons (re_v (i := 8) rfl (by first | exact .inl rfl | exact .inr (.inl rfl) | exact .inr (.inr rfl)) (by first | decide | (dsimp only [ctxD, ctxC]; decide) | (intro h; dsimp only [ctxD, ctxC] at h; revert h; decide) | (intro i hi; dsimp only [ctxD, ctxC] at *; revert i hi; decide))) ras_nil)) (hl := (aC_len (aC_len aN_len)))))) (rss_one (rs_ret re_bl)) rss_nil (fun i h => by cases h; decide))
    (rss_one (rs_if (rt_ne (RE.wk (re_repr m_repr (re_call ⟨cal__law_kept.ex⟩ rfl (ras_cons (re_v (i := 7) rfl (by first | exact .inl rfl | exact .inr (.inl rfl) | exact .inr (.inr rfl)) (by first | decide | (dsimp only [ctxD, ctxC]; decide) | (intro h; dsimp only [ctxD, ctxC] at h; revert h; decide) | (intro i hi; dsimp only [ctxD, ctxC] at *; revert i hi; decide))) (ras_cons (re_v (i := 8) rfl (by first | exact .inl rfl | exact .inr (.inl rfl) | exact .inr (.inr rfl)) (by first | decide | (dsimp only [ctxD, ctxC]; decide) | (intro h; dsimp only [ctxD, ctxC] at h; revert h; decide) | (intro i hi; dsimp only [ctxD, ctxC] at *; revert i hi; decide))) ras_nil)) (hl := (aC_len (aC_len aN_len)))))) (RE.wk (re_repr m_repr (RN.re (rn_if (rt_lt (RE.wk (re_v (i := 7) rfl (by first | exact .inl rfl | exact .inr (.inl rfl) | exact .inr (.inr rfl)) (by first | decide | (dsimp only [ctxD, ctxC]; decide) | (intro h; dsimp only [ctxD, ctxC] at h; revert h; decide) | (intro i hi; dsimp only [ctxD, ctxC] at *; revert i hi; decide)))) (RE.wk re_int)) (rn_lst (ras_cons (re_v (i := 9) rfl (by first | exact .inl rfl | exact .inr (.inl rfl) | exact .inr (.inr rfl)) (by first | decide | (dsimp only [ctxD, ctxC]; decide) | (intro h; dsimp only [ctxD, ctxC] at h; revert h; decide) | (intro i hi; dsimp only [ctxD, ctxC] at *; revert i hi; decide))) ras_nil)) (rn_lst ras_nil)))))) (rss_one (rs_ret re_bl)) rss_nil (fun i h => by cases h; decide)))) (by first | decide | (dsimp only [ctxD, ctxC]; decide) | (intro h; dsimp only [ctxD, ctxC] at h; revert h; decide) | (intro i hi; dsimp only [ctxD, ctxC] at *; revert i hi; decide)) (fun i h => by cases h; decide))
    (rss_one (rs_ret re_bl)))))))) (by first | decide | (dsimp only [ctxD, ctxC]; decide) | (intro h; dsimp only [ctxD, ctxC] at h; revert h; decide) | (intro i hi; dsimp only [ctxD, ctxC] at *; revert i hi; decide)) (by first | decide | (dsimp only [ctxD, ctxC]; decide) | (intro h; dsimp only [ctxD, ctxC] at h; revert h; decide) | (intro i hi; dsimp only [ctxD, ctxC] at *; revert i hi; decide)) (fun h => nomatch h)

def d__law_met : List D → Option (D × D)
  | [.int 0, d] => some (.list [.str (Str.ofString "base"), .bool false, d], .none)
  | [.int 1, d] => some (.list [.str (Str.ofString "text"), d], .none)
  | [.int 2, _] => some (.list [.str (Str.ofString "base"), .bool true], .none)
  | [.int 3, d] => some (.list [.str (Str.ofString "base"), .bool false, d], .none)
  | _ => none


abbrev s__law_right : Stmt := topS 39
theorem sc__law_right : FnScope ["pot", "begin", "turn", "thing", "due", "base", "number"] ["pot"] (defScope s__law_right) := ⟨rfl, rfl, rfl, by decide +kernel, rfl, by decide +kernel, by decide +kernel⟩
def b__law_right (K : PySem.W.Frag) (C : Nat → Addr) : SM :=
  (sSeq (sSet 1 (eCallP 0 yes yes d__law_draw (aC (eC (.int 23)) aN)))
    (sSeq (sFor (aR1 (aC (eC (.int 23)) aN)) (gN 2) (sIf (bNot (bV (eCallP 0 yes yes (d__law_are_right K C) (aC (eB dMod (eF (f1 dInt) (aC (eB dAdd (eV 1) (eV 2)) aN)) (eC (.int 23))) aN)))) (sRet (eC (.bool false))) sNx))
    (sSeq (sSet 3 (eCallP 0 yes yes d_thing2 (aC (eC (.int 2)) aN)))
    (sSeq (sSet 4 (eF dLst (aC (eF dLst (aC (eC (.str (Str.ofString "base"))) (aC (eC (.bool false)) (aC (eV 3) aN)))) (aC (eF dLst (aC (eC (.str (Str.ofString "text"))) (aC (eV 3) aN))) (aC (eF dLst (aC (eC (.str (Str.ofString "base"))) (aC (eC (.bool true)) aN))) (aC (eF dLst (aC (eC (.str (Str.ofString "base"))) (aC (eC (.bool false)) (aC (eV 3) aN)))) aN))))))
    (sSeq (sIf (bV (eB dNe (eF (f1 dRepr) (aC (eComp (some 0) [6] (aR1 (aC (eC (.int 4)) aN)) (gN 6) bYes (eCall yes d__law_met (aC (eV 6) (aC (eV 3) aN)))) aN)) (eF (f1 dRepr) (aC (eV 4) aN)))) (sRet (eC (.bool false))) sNx)
    (sSeq (sSet 5 (eC (dX0 (C 23))))
    (sRet (eAnd (eIs (isOf K (cs C) (.type "ValueError")) (eV 5)) (eB dNotIn (eC (.bool true)) (eCall yes (d__law_of_classes K C) (aC (eV 5) aN)))))))))))
def d__law_right (K : PySem.W.Frag) (C : Nat → Addr) : List D → Option (D × D) := runP 1 7 (b__law_right K C)
theorem ok__law_right {k : Nat} {f : Addr} {fd : FuncData}  (F : L2.Fun K "_law_right" "_law_right" s__law_right f fd)
    (cal__law_draw : Cal ⟨P, w, K, mg, base, [], defScope s__law_right, k, fun _ => true, none, []⟩ "_law_draw" (spP 2 false d__law_draw)) (cal__law_are_right : Cal ⟨P, w, K, mg, base, [], defScope s__law_right, k, fun _ => true, none, []⟩ "_law_are_right" (spP 2 false (d__law_are_right K C))) (cal__law_thing : Cal ⟨P, w, K, mg, base, [], defScope s__law_right, k, fun _ => true, none, []⟩ "_law_thing" (spP 2 false d_thing2)) (cal__law_met : Cal ⟨P, w, K, mg, base, [], defScope s__law_right, k, fun _ => true, none, []⟩ "_law_met" (spD 2 false d__law_met)) (mk_WeylError : Mk0 ⟨P, w, K, mg, base, [], defScope s__law_right, k, fun _ => true, none, []⟩ "WeylError" (C 23)) (cal__law_of_classes : Cal ⟨P, w, K, mg, base, [], defScope s__law_right, k, fun _ => true, none, []⟩ "_law_of_classes" (spD 1 false (d__law_of_classes K C))) (hcs : ∀ D ∈ cs C, ExcC K D) (m_ValueError : mg ("ValueError" : Str) = none) (m_int : mg ("int" : Str) = none) (m_isinstance : mg ("isinstance" : Str) = none) (m_range : mg ("range" : Str) = none) (m_repr : mg ("repr" : Str) = none) :
    FnG P w K mg base CX0 (k + 1) f fd ["pot"] (spP 1 false (d__law_right K C)) :=
  defP_ok F sc__law_right (os := []) (new := false) (show RSs (ctxD P w K mg base ["pot", "begin", "turn", "thing", "due", "base", "number"] s__law_right k (some 0) [0]) false [] (defBody s__law_right) (b__law_right K C) from
    (rss_cons (rs_set (i := 1) rfl (by first | exact .inl rfl | exact .inr ⟨rfl, rfl⟩) (by first | decide | (dsimp only [ctxD, ctxC]; decide) | (intro h; dsimp only [ctxD, ctxC] at h; revert h; decide) | (intro i hi; dsimp only [ctxD, ctxC] at *; revert i hi; decide)) (fun i h => by cases h; decide) (re_callP (i := 0) ⟨cal__law_draw.ex⟩ rfl (by first | exact .inl rfl | exact .inr (.inl rfl) | exact .inr (.inr rfl)) rfl (ras_cons re_int ras_nil) (aC_len aN_len)))
    (rss_cons (rs_for (ts := [2]) (fb' := []) (ri_range1 (ra_cons (RE.wk re_int) ra_nil) m_range) (rg_n (i := 2) rfl (by first | exact .inl rfl | exact .inr ⟨rfl, rfl⟩) (by first | decide | (dsimp only [ctxD, ctxC]; decide) | (intro h; dsimp only [ctxD, ctxC] at h; revert h; decide) | (intro i hi; dsimp only [ctxD, ctxC] at *; revert i hi; decide))) (rss_one (rs_if (rt_not (rt_val (re_callP (i := 0) ⟨cal__law_are_right.ex⟩ rfl (by first | exact .inl rfl | exact .inr (.inl rfl) | exact .inr (.inr rfl)) rfl (ras_cons (re_mod (RE.wk (re_toInt m_int (ra_cons (RE.wk (re_add (RE.wk (re_v (i := 1) rfl (by first | exact .inl rfl | exact .inr (.inl rfl) | exact .inr (.inr rfl)) (by first | decide | (dsimp only [ctxD, ctxC]; decide) | (intro h; dsimp only [ctxD, ctxC] at h; revert h; decide) | (intro i hi; dsimp only [ctxD, ctxC] at *; revert i hi; decide)))) (RE.wk (re_v (i := 2) rfl (by first | exact .inl rfl | exact .inr (.inl rfl) | exact .inr (.inr rfl)) (by first | decide | (dsimp only [ctxD, ctxC]; decide) | (intro h; dsimp only [ctxD, ctxC] at h; revert h; decide) | (intro i hi; dsimp only [ctxD, ctxC] at *; revert i hi; decide)))))) ra_nil))) (RE.wk re_int)) ras_nil) (aC_len aN_len)))) (rss_one (rs_ret re_bl)) rss_nil (fun i h => by cases h; decide))) (by first | decide | (dsimp only [ctxD, ctxC]; decide) | (intro h; dsimp only [ctxD, ctxC] at h; revert h; decide) | (intro i hi; dsimp only [ctxD, ctxC] at *; revert i hi; decide)) (fun i h => by cases h; decide))
    (rss_cons (rs_set (i := 3) rfl (by first | exact .inl rfl | exact .inr ⟨rfl, rfl⟩) (by first | decide | (dsimp only [ctxD, ctxC]; decide) | (intro h; dsimp only [ctxD, ctxC] at h; revert h; decide) | (intro i hi; dsimp only [ctxD, ctxC] at *; revert i hi; decide)) (fun i h => by cases h; decide) (re_callP (i := 0) ⟨cal__law_thing.ex⟩ rfl (by first | exact .inl rfl | exact .inr (.inl rfl) | exact .inr (.inr rfl)) rfl (ras_cons re_int ras_nil) (aC_len aN_len)))
    (rss_cons (rs_set (i := 4) rfl (by first | exact .inl rfl | exact .inr ⟨rfl, rfl⟩) (by first | decide | (dsimp only [ctxD, ctxC]; decide) | (intro h; dsimp only [ctxD, ctxC] at h; revert h; decide) | (intro i hi; dsimp only [ctxD, ctxC] at *; revert i hi; decide)) (fun i h => by cases h; decide) (RN.re (rn_lst (ras_cons (RN.re (rn_lst (ras_cons re_str (ras_cons re_bl (ras_cons (re_v (i := 3) rfl (by first | exact .inl rfl | exact .inr (.inl rfl) | exact .inr (.inr rfl)) (by first | decide | (dsimp only [ctxD, ctxC]; decide) | (intro h; dsimp only [ctxD, ctxC] at h; revert h; decide) | (intro i hi; dsimp only [ctxD, ctxC] at *; revert i hi; decide))) ras_nil))))) (ras_cons (RN.re (rn_lst (ras_cons re_str (ras_cons (re_v (i := 3) rfl (by first | exact .inl rfl | exact .inr (.inl rfl) | exact .inr (.inr rfl)) (by first | decide | (dsimp only [ctxD, ctxC]; decide) | (intro h; dsimp only [ctxD, ctxC] at h; revert h; decide) | (intro i hi; dsimp only [ctxD, ctxC] at *; revert i hi; decide))) ras_nil)))) (ras_cons (RN.re (rn_lst (ras_cons re_str (ras_cons re_bl ras_nil)))) (ras_cons (RN.re (rn_lst (ras_cons re_str (ras_cons re_bl (ras_cons (re_v (i := 3) rfl (by first | exact .inl rfl | exact .inr (.inl rfl) | exact .inr (.inr rfl)) (by first | decide | (dsimp only [ctxD, ctxC]; decide) | (intro h; dsimp only [ctxD, ctxC] at h; revert h; decide) | (intro i hi; dsimp only [ctxD, ctxC] at *; revert i hi; decide))) ras_nil))))) ras_nil)))))))
    (rss_cons (rs_if (rt_ne (RE.wk (re_repr m_repr (RN.re (rn_comp (fb := []) (own := [(("number" : Str), 6)]) (vs := [6]) (fun i h => by cases h; decide) (by first | decide | (dsimp only [ctxD, ctxC]; decide) | (intro h; dsimp only [ctxD, ctxC] at h; revert h; decide) | (intro i hi; dsimp only [ctxD, ctxC] at *; revert i hi; decide)) (blkOk_by (by first | decide +kernel | (dsimp only [ctxD, ctxC]; decide +kernel))) rfl (hi := (ri_range1 (ra_cons (RE.wk re_int) ra_nil) m_range)) (hg := (rg_n (i := 6) rfl (by first | exact .inl rfl | exact .inr ⟨rfl, rfl⟩) (by first | decide | (dsimp only [ctxD, ctxC]; decide) | (intro h; dsimp only [ctxD, ctxC] at h; revert h; decide) | (intro i hi; dsimp only [ctxD, ctxC] at *; revert i hi; decide)))) (ht := rts_nil) (he := (re_call ⟨cal__law_met.ex⟩ rfl (ras_cons (re_v (i := 6) rfl (by first | exact .inl rfl | exact .inr (.inl rfl) | exact .inr (.inr rfl)) (by first | decide | (dsimp only [ctxD, ctxC]; decide) | (intro h; dsimp only [ctxD, ctxC] at h; revert h; decide) | (intro i hi; dsimp only [ctxD, ctxC] at *; revert i hi; decide))) (ras_cons (re_v (i := 3) rfl (by first | exact .inl rfl | exact .inr (.inl rfl) | exact .inr (.inr rfl)) (by first | decide | (dsimp only [ctxD, ctxC]; decide) | (intro h; dsimp only [ctxD, ctxC] at h; revert h; decide) | (intro i hi; dsimp only [ctxD, ctxC] at *; revert i hi; decide))) ras_nil)) (hl := (aC_len (aC_len aN_len))))))))) (RE.wk (re_repr m_repr (re_v (i := 4) rfl (by first | exact .inl rfl | exact .inr (.inl rfl) | exact .inr (.inr rfl)) (by first | decide | (dsimp only [ctxD, ctxC]; decide) | (intro h; dsimp only [ctxD, ctxC] at h; revert h; decide) | (intro i hi; dsimp only [ctxD, ctxC] at *; revert i hi; decide)))))) (rss_one (rs_ret re_bl)) rss_nil (fun i h => by cases h; decide))
    (rss_cons (rs_set (i := 5) rfl (by first | exact .inl rfl | exact .inr ⟨rfl, rfl⟩) (by first | decide | (dsimp only [ctxD, ctxC]; decide) | (intro h; dsimp only [ctxD, ctxC] at h; revert h; decide) | (intro i hi; dsimp only [ctxD, ctxC] at *; revert i hi; decide)) (fun i h => by cases h; decide) (re_mk0 mk_WeylError))
    (rss_one (rs_ret (re_and (re_isI m_isinstance hcs (re_v (i := 5) rfl (by first | exact .inl rfl | exact .inr (.inl rfl) | exact .inr (.inr rfl)) (by first | decide | (dsimp only [ctxD, ctxC]; decide) | (intro h; dsimp only [ctxD, ctxC] at h; revert h; decide) | (intro i hi; dsimp only [ctxD, ctxC] at *; revert i hi; decide))) (cn_ty m_ValueError (by decide +kernel))) (re_one (re_notIn (RE.wk re_bl) (RE.wk (re_call ⟨cal__law_of_classes.ex⟩ rfl (ras_cons (re_v (i := 5) rfl (by first | exact .inl rfl | exact .inr (.inl rfl) | exact .inr (.inr rfl)) (by first | decide | (dsimp only [ctxD, ctxC]; decide) | (intro h; dsimp only [ctxD, ctxC] at h; revert h; decide) | (intro i hi; dsimp only [ctxD, ctxC] at *; revert i hi; decide))) ras_nil) (hl := (aC_len aN_len)))))))))))))))) (by first | decide | (dsimp only [ctxD, ctxC]; decide) | (intro h; dsimp only [ctxD, ctxC] at h; revert h; decide) | (intro i hi; dsimp only [ctxD, ctxC] at *; revert i hi; decide)) (by first | decide | (dsimp only [ctxD, ctxC]; decide) | (intro h; dsimp only [ctxD, ctxC] at h; revert h; decide) | (intro i hi; dsimp only [ctxD, ctxC] at *; revert i hi; decide)) (fun h => nomatch h)

abbrev s_law : Stmt := topS 40
theorem sc_law : FnScope ["script", "turn"] ["script"] (defScope s_law) := ⟨rfl, rfl, rfl, by decide +kernel, rfl, by decide +kernel, by decide +kernel⟩
def b_law (K : PySem.W.Frag) (C : Nat → Addr) : SM :=
  (sRet (eF (f1 dAll) (aC (eComp none [1] (aR1 (aC (eF (f2 dMax2) (aC (eC (.int 2)) (aC (eF (f2 dMin2) (aC (eF (f1 dLen) (aC (eV 0) aN)) (aC (eC (.int 3)) aN))) aN))) aN)) (gN 1) bYes (eCallN noL (d__law_right K C) (eCall yes d__law_pot (aC (eV 0) (aC (eV 1) aN))))) aN)))
def d_law (K : PySem.W.Frag) (C : Nat → Addr) : List D → Option (D × D) := runD 1 2 (b_law K C)
theorem ok_law {k : Nat} {f : Addr} {fd : FuncData}  (F : L2.Fun K "law" "law" s_law f fd)
    (cal__law_right : Cal ⟨P, w, K, mg, base, [], defScope s_law, k, fun _ => true, none, []⟩ "_law_right" (spP 1 false (d__law_right K C))) (cal__law_pot : Cal ⟨P, w, K, mg, base, [], defScope s_law, k, fun _ => true, none, []⟩ "_law_pot" (spD 2 true d__law_pot)) (m_all : mg ("all" : Str) = none) (m_len : mg ("len" : Str) = none) (m_max : mg ("max" : Str) = none) (m_min : mg ("min" : Str) = none) (m_range : mg ("range" : Str) = none) :
    FnG P w K mg base CX0 (k + 1) f fd ["script"] (spD 1 false (d_law K C)) :=
  def_ok F sc_law (os := []) (new := false) (show RSs (ctxD P w K mg base ["script", "turn"] s_law k none []) false [] (defBody s_law) (b_law K C) from
    (rss_one (rs_ret (re_all m_all (ra_cons (RE.wk (RN.re (rn_comp (fb := []) (own := [(("turn" : Str), 1)]) (vs := [1]) (fun i h => nomatch h) (by first | decide | (dsimp only [ctxD, ctxC]; decide) | (intro h; dsimp only [ctxD, ctxC] at h; revert h; decide) | (intro i hi; dsimp only [ctxD, ctxC] at *; revert i hi; decide)) (blkOk_by (by first | decide +kernel | (dsimp only [ctxD, ctxC]; decide +kernel))) rfl (hi := (ri_range1 (ra_cons (RE.wk (re_max m_max (ra_cons (RE.wk re_int) (ra_cons (RE.wk (re_min m_min (ra_cons (RE.wk (re_len m_len (ra_cons (RE.wk (re_v (i := 0) rfl (by first | exact .inl rfl | exact .inr (.inl rfl) | exact .inr (.inr rfl)) (by first | decide | (dsimp only [ctxD, ctxC]; decide) | (intro h; dsimp only [ctxD, ctxC] at h; revert h; decide) | (intro i hi; dsimp only [ctxD, ctxC] at *; revert i hi; decide)))) ra_nil))) (ra_cons (RE.wk re_int) ra_nil)))) ra_nil)))) ra_nil) m_range)) (hg := (rg_n (i := 1) rfl (by first | exact .inl rfl | exact .inr ⟨rfl, rfl⟩) (by first | decide | (dsimp only [ctxD, ctxC]; decide) | (intro h; dsimp only [ctxD, ctxC] at h; revert h; decide) | (intro i hi; dsimp only [ctxD, ctxC] at *; revert i hi; decide)))) (ht := rts_nil) (he := (re_callN ⟨cal__law_right.ex⟩ (rn_call ⟨cal__law_pot.ex⟩ rfl (ras_cons (re_v (i := 0) rfl (by first | exact .inl rfl | exact .inr (.inl rfl) | exact .inr (.inr rfl)) (by first | decide | (dsimp only [ctxD, ctxC]; decide) | (intro h; dsimp only [ctxD, ctxC] at h; revert h; decide) | (intro i hi; dsimp only [ctxD, ctxC] at *; revert i hi; decide))) (ras_cons (re_v (i := 1) rfl (by first | exact .inl rfl | exact .inr (.inl rfl) | exact .inr (.inr rfl)) (by first | decide | (dsimp only [ctxD, ctxC]; decide) | (intro h; dsimp only [ctxD, ctxC] at h; revert h; decide) | (intro i hi; dsimp only [ctxD, ctxC] at *; revert i hi; decide))) ras_nil)) (hl := (aC_len (aC_len aN_len))))))))) ra_nil))))) (by first | decide | (dsimp only [ctxD, ctxC]; decide) | (intro h; dsimp only [ctxD, ctxC] at h; revert h; decide) | (intro i hi; dsimp only [ctxD, ctxC] at *; revert i hi; decide)) (fun h => nomatch h)
end
end Fw
set_option Elab.async false
set_option linter.all false
set_option maxRecDepth 100000
set_option maxHeartbeats 4000000
namespace Fw
open PySem PySem.Spec PyProof.Rows L2
theorem ifT {c : Bool} {A B : Prop} (hc : c = true) (h : A) : if c = true then A else B := by rw [if_pos hc]; exact h
theorem ifF {c : Bool} {A B : Prop} (hc : c = false) (h : B) : if c = true then A else B := by rw [if_neg (by rw [hc]; decide)]; exact h
theorem intNe {i j : Int} (h : ¬ i = j) : decide (V.int i = V.int j) = false := decide_eq_false fun z => h (by injection z)
section
variable {X : Cx} {a : Addr} {oe : Obj} {cls : Value} {d : Option Addr} {e : Expr} {te : TE} {f : Str} {p pos : Pos}
/-! ### what is caught, asked -/
def tPf (K : PySem.W.Frag) (f : Str) (a : Addr) (cls : Value) (d : Option Addr) (te : TE) : TE := fun σ H Q => te σ H fun x H1 => x = .ref a ∧ ∃ (C dd : Addr) (fs : List (Str × V)) (v : V), cls = .ref C ∧ d = some dd ∧ FldK K C f ∧ H1 dd = some (.xd fs) ∧ fs.lookup f = some v ∧ Q v H1
theorem pe_pf (hp : (a, oe) ∈ X.pn) (hz : Zc cls d oe) (hf : ∃ vs, oe.data = .fields vs) (he : PE X e te) (hb : attributeBase e f X.env (eval e X.env) = eval e X.env := by rfl) : PE X (.Attribute e f pos) (tPf X.K f a cls d te) := by
  refine ⟨fun pins s σ H Q I h => ?_⟩
  refine attr_of hb (thn (he.run pins s σ H _ I h) fun u s1 hh => ?_)
  obtain ⟨x, H1, I1, rx, rfl, C, dd, fs, v, rfl, rfl, T, ea, el, q⟩ := hh
  obtain rfl : u = Value.ref a := rx
  obtain ⟨ha, _⟩ := I1.pin (a, oe) (List.mem_append_left _ hp)
  obtain ⟨vs, hd⟩ := hf
  obtain ⟨mA, hns, hr⟩ := xd_at I1.hok ea
  obtain ⟨od, ho, hl⟩ := lookIn_ns hns
  obtain ⟨u, hu, ru⟩ := RelO.some_of (v := v) (o := mA f) (by rw [← el]; exact hr f)
  have J : PySem.W.InstAt s1.heap a oe C (some od) := ⟨ha, hz.1, by unfold PySem.W.notCls; rw [hd] <;> rfl, by rw [hz.2]; exact ho⟩
  exact HandSPX.exc_get I1.kIn J T.ga T.gg T.exC (PySem.W.findObj_own T.hdC T.noN rfl (by rw [hl f, hu])) (handed_of ru) ⟨v, H1, I1.tok _, ru, q⟩
def rIsP (K : PySem.W.Frag) (a : Addr) (cls : Value) (d : Option Addr) : List V → Hp → VK → Prop := fun xs H Q => ∃ (C : Addr) (c : V) (u : Value) (b : Bool), xs = [.ref a, c] ∧ cls = .ref C ∧ ExcC K C ∧ ClsV c u ∧ PySem.W.kitOne K (.ref C) u = some b ∧ (∀ dd, d = some dd → ∃ fs, H dd = some (.xd fs)) ∧ Q (.bl b) H
theorem call_isP (hp : (a, oe) ∈ X.pn) (hz : Zc cls d oe) (hf : ∃ vs, oe.data = .fields vs) : CallR X (.builtin "isinstance") (rIsP X.K a cls d) := by
  intro pins s σ H xs us Q I r h
  obtain ⟨C, c, u, b, rfl, rfl, T, k, e, hd, q⟩ := h
  obtain ⟨u1, u2, rfl, r1, r2⟩ := vals2 r
  have e2 := k.eq r2
  subst e2
  cases (show u1 = Value.ref a from r1)
  obtain ⟨ha, _⟩ := I.pin (a, oe) (List.mem_append_left _ hp)
  obtain ⟨vs, hdat⟩ := hf
  have hnc : PySem.W.notCls oe = true := by unfold PySem.W.notCls; rw [hdat] <;> rfl
  cases d with
  | none =>
    have J : PySem.W.InstAt s.heap a oe C none := ⟨ha, hz.1, hnc, by rw [hz.2]; exact True.intro⟩
    exact PySem.W.kia_one (FwX.kitEx T) I.kIn J e (fun z => nomatch z) fun tk => ⟨.bl b, H, I.tok tk, rfl, q⟩
  | some dd =>
    obtain ⟨fs, hx⟩ := hd dd rfl
    obtain ⟨mA, hns, _⟩ := xd_at I.hok hx
    obtain ⟨od, ho, _⟩ := lookIn_ns hns
    have J : PySem.W.InstAt s.heap a oe C (some od) := ⟨ha, hz.1, hnc, by rw [hz.2]; exact ho⟩
    exact PySem.W.kia_one (FwX.kitEx T) I.kIn J e (fun z => nomatch z) fun tk => ⟨.bl b, H, I.tok tk, rfl, q⟩
end

/-! ### _law_kept of what is caught -/
def spK (K : PySem.W.Frag) (a : Addr) (cls : Value) (d : Option Addr) (vs : List V) (H : Hp) (Q : VK) : Prop := ∃ i : Int, vs = [.int i, .ref a] ∧
  ((i < 17 ∧ ∃ (C dd : Addr) (v : V), cls = .ref C ∧ d = some dd ∧ FldK K C "given" ∧ H dd = some (.xd [("given", v)]) ∧ ∀ p, H p = none → Q (.ref p) (upd H p (.lst [v]))) ∨ (i = 19 ∧ ∀ p, H p = none → Q (.ref p) (upd H p (.lst []))))
section
variable {P : Program} {w : World} {K : PySem.W.Frag} {mg : Str → Option Value} {base : Heap}
theorem kept_run {f : Addr} {fd : FuncData} (F : L2.Fun K "_law_kept" "_law_kept" s__law_kept f fd) {A : Around} {outer : List PySem.Env} {s : Shared} {H : Hp} {args : Args} {us : List Value} {vs : List V} {Q : VK} {a : Addr} {oe : Obj} {cls : Value} {d : Option Addr}
    (hr : A.depth < recursionLimit) (hpin : L2H.PinOk outer H s (a, oe)) (hz : Zc cls d oe) (hf : ∃ vs, oe.data = .fields vs) (e0 : Env0 P w K mg base A outer s H) (hb : BindsTo s fd args ((["number", "error"] : List Str).zip us)) (r : Vals vs us) (hsp : spK K a cls d vs H Q) :
    codeAny (model P w) A (.call (.ref f) args) (CR CX0 outer P w H s Q E0) s := by
  obtain ⟨oc, od, kV, doc, pm, an, cdv, ct, osl, rfl, lk, hcd⟩ := F.ex
  have S := sc__law_kept
  have hl : vs.length = (["number", "error"] : List Str).length := by obtain ⟨i, rfl, _⟩ := hsp; rfl
  have kin : K.In s.heap := e0.mod.kin.keeps fun b o e => (e0.bs b o e).1
  have lim : s.heap.NoLimit := e0.mod.nolimit.keeps fun b o e => (e0.bs b o e).1
  have kinds : ∀ y ∈ (["number", "error"] : List Str).zip us, (defScope s__law_kept).names.lookup y.1 = some .local ∨ ((defScope s__law_kept).names.lookup y.1 = some .cell ∧ ((cellsFrom (s.heap.objs.size + 1) (defScope s__law_kept).names []).lookup y.1).isSome = true) := fun ⟨n, v⟩ hy => by
    rcases S.par n (List.of_mem_zip hy).1 with q | q
    · exact .inl q
    · exact .inr ⟨q, PySem.W.cellsFrom_some _ _ _ (.inl q)⟩
  refine codeAny_call_function hr (kin _ _ lk) rfl S.co S.gen rfl (PySem.W.codeRec_of kin hcd) (hb _ _ _ _ ?_)
  refine wpAny_newFunctionEnv_cells S.kind kinds fun env he s1 x => ?_
  subst he
  refine ⟨lim.keeps x.toInCall.keep, codeAny_func ?_⟩
  have I := L2H.inv_startH (CX := CX0) (E := E0) (P := P) (w := w) (K := K) (mg := mg) (base := base) (A := A) S hpin e0 hl r x
  have body : PSs (L2H.cxH CX0 P w K mg base ["number", "error"] "_law_kept" (defScope s__law_kept) f cdv A outer s H E0 (a, oe)) (defBody s__law_kept) _ :=
    pss_cons (ps_if (pt_cmpR op_eq (pv 0) pe_int (nomark _)) (pss_one (ps_ret (pe_lst (pa_cons (pe_pf (List.mem_singleton.mpr rfl) hz hf (pv 1)) pa_nil)))) pss_nil)
      (pss_cons (ps_if (pt_cmpR op_eq (pv 0) pe_int (nomark _)) (pss_one (ps_ret (pe_lst (pa_cons (pe_pf (List.mem_singleton.mpr rfl) hz hf (pv 1)) pa_nil)))) pss_nil)
        (pss_one (ps_ret (pe_ifExp (pt_cmpR op_lt (pv 0) pe_int (nomark _)) (pe_lst (pa_cons (pe_pf (List.mem_singleton.mpr rfl) hz hf (pv 1)) pa_nil)) (pe_lst pa_nil)))))
  refine wpAny_mono (body.run [] s1 (L2.start ["number", "error"] vs) H { nx := fun _ H' => Q .non H', rt := Q } I ?_) (fun fl s' hs => ?_) fun e s' hs => hs
  · obtain ⟨i, rfl, hq⟩ := hsp
    have n1 : ¬ i = 17 := by rcases hq with ⟨h, _⟩ | ⟨h, _⟩ <;> omega
    have n2 : ¬ i = 18 := by rcases hq with ⟨h, _⟩ | ⟨h, _⟩ <;> omega
    refine ⟨_, rfl, rfl, _, rfl, ifF (intNe n1) ?_⟩
    refine ⟨_, rfl, rfl, _, rfl, ifF (intNe n2) ?_⟩
    refine ⟨_, rfl, _, _, rfl, rfl, _, rfl, ?_⟩
    rcases hq with ⟨h, C, dd, v, rfl, rfl, T, hx, q⟩ | ⟨rfl, q⟩
    · refine ifT (decide_eq_true h) ?_
      exact ⟨_, rfl, rfl, C, dd, _, v, rfl, rfl, T, hx, by simp [List.lookup], by show 1 ≤ sizeLine; decide, q⟩
    · refine ifF (by decide) ?_
      exact ⟨by show 0 ≤ sizeLine; decide, q⟩
  · cases fl with
    | ret u =>
      obtain ⟨v, σ', H', J, rv, q⟩ := hs
      exact ⟨v, H', J.os, J.bare, J.base, J.hok, rv, q⟩
    | next =>
      obtain ⟨σ', H', J, q⟩ := hs
      exact ⟨.non, H', J.os, J.bare, J.base, J.hok, rfl, q⟩
    | brk =>
      obtain ⟨_, _, _, q⟩ := hs
      exact False.elim q
    | cont =>
      obtain ⟨_, _, _, q⟩ := hs
      exact False.elim q
end
section
variable {X : Cx} {a : Addr} {oe : Obj} {cls : Value} {d : Option Addr} {e1 e2 : Expr} {t : TA} {q pos : Pos}
theorem pe_pfK {X : Cx} {a : Addr} {oe : Obj} {cls : Value} {d : Option Addr} {e : Expr} {te : TE} {f : Str} {pos : Pos} (K : PySem.W.Frag) (hK : X.K = K) (hp : (a, oe) ∈ X.pn) (hz : Zc cls d oe) (hf : ∃ vs, oe.data = .fields vs) (he : PE X e te) (hb : attributeBase e f X.env (eval e X.env) = eval e X.env := by rfl) : PE X (.Attribute e f pos) (tPf K f a cls d te) := by
  subst hK
  exact pe_pf hp hz hf he hb
theorem call_isPK {X : Cx} {a : Addr} {oe : Obj} {cls : Value} {d : Option Addr} (K : PySem.W.Frag) (hK : X.K = K) (hp : (a, oe) ∈ X.pn) (hz : Zc cls d oe) (hf : ∃ vs, oe.data = .fields vs) : CallR X (.builtin "isinstance") (rIsP K a cls d) := by
  subst hK
  exact call_isP hp hz hf
theorem op_catLK {X : Cx} (K : PySem.W.Frag) (hK : X.K = K) : OpR X (binaryOp .Add) (rCatL K) := by subst hK; exact op_catL
theorem ix_listK {X : Cx} (K : PySem.W.Frag) (hK : X.K = K) : IxR X (rIxL K) := by subst hK; exact ix_list
theorem pe_kept {f : Addr} {fd : FuncData} (K : PySem.W.Frag) (hK : X.K = K) (hp : (a, oe) ∈ X.pn) (hz : Zc cls d oe) (hf : ∃ vs, oe.data = .fields vs) (F : L2.Fun X.K "_law_kept" "_law_kept" s__law_kept f fd) (hb : Binds X.K fd ["number", "error"] []) (hm : X.mg "_law_kept" = some (.ref f)) (hr : X.A.depth < recursionLimit)
    (hg : Gl X "_law_kept") (ha : PA X [e1, e2] t) (he : starEach [e1, e2] X.env = (false, eval e1 X.env) :: starEach [e2] X.env := by rfl) (hpl : (backTo pos (starEach [e2] X.env)).any (·.1) = false := by rfl) :
    PE X (.Call (.Name "_law_kept" q) [e1, e2] [] pos) (fun σ H Q => t σ H fun vs H1 => spK K a cls d vs H1 Q) := by
  subst hK
  refine ⟨fun pins s σ H Q I h => ?_⟩
  refine wpAny_Call_Name_kw (ld_glob I hg hm ?_ (by decide))
  refine PySem.W.callWith_K (h₀ := X.base) I.ok.mod.kin F.kp (thn (ha.run pos pins s σ H _ I h) fun us s1 ⟨vs, H1, I1, r, hq⟩ => ⟨I1.kIn, ?_⟩) he hpl
  have hl : (us ++ []).length = (["number", "error"] : List Str).length := by
    obtain ⟨i, rfl, _⟩ := hq
    rw [List.append_nil, ← r.length]
    rfl
  have b := hb s1 us I1.kIn hl
  rw [List.append_nil] at b
  have P1 := I1.pin (a, oe) (List.mem_append_left _ hp)
  have hpin : L2H.PinOk X.stack H1 s1 (a, oe) := ⟨P1.1, P1.2.1, fun hm => (List.mem_cons.mp (I1.stkSub a hm)).elim P1.2.2.1 P1.2.2.2.1, P1.2.2.2.2⟩
  refine wpAny_call (codeAny_mono (kept_run F hr hpin hz hf I1.env0 b r hq) fun r s' hq => ?_)
  cases r with
  | error e => exact hq.elim
  | ok fl =>
    cases fl with
    | ret u => exact I1.after hq
    | next => exact False.elim hq
    | brk => exact False.elim hq
    | cont => exact False.elim hq
end
end Fw
set_option Elab.async false
set_option linter.all false
set_option maxRecDepth 100000
set_option maxHeartbeats 4000000
namespace Fw
open PySem PySem.Spec PyProof.Rows L2
abbrev s__law_met : Stmt := topS 38
theorem sc__law_met : FnScope ["number", "thing", "e"] ["number", "thing"] (defScope s__law_met) := ⟨rfl, rfl, rfl, by decide +kernel, rfl, by decide +kernel, by decide +kernel⟩
theorem room_depth {k : Nat} {A : Around} (r : Room k A) : A.depth < recursionLimit := by have := r.dp; omega
theorem notAv {H H1 : Hp} {Av : Addr → Prop} {p : Addr} (t : Trk H Av) (s : Same H H1) (hp : H1 p = none) : ¬ Av p := fun h => by
  obtain ⟨o, e⟩ := t p h
  rw [s p o e] at hp
  cases hp
theorem raise_same {H : Hp} {a dx : Addr} {e0 e1 e2 e3 : HO} (ha : H a = none) (hd : H dx = none) : Same H (upd (del (upd (upd (upd H a e0) dx e1) a e2) a) dx e3) := fun b o e => by
  have na : b ≠ a := ne_of_none e ha
  have nd : b ≠ dx := ne_of_none e hd
  rw [upd_ne nd, del_ne na, upd_ne na, upd_ne nd, upd_ne na]
  exact e
theorem met_s4 {K : PySem.W.Frag} {C : Nat → Addr} {n : Int} {j : Nat} {Hx : Hp} {dx a2 : Addr} {v y : V} {Q : VK} (hj : (n = 0 ∧ j = 4) ∨ (n = 3 ∧ j = 16)) (hc : ExcC K (C j)) (g : FldK K (C j) "given") (hkit : PySem.W.kitOne K (.ref (C j)) (.ref (C 19)) = some false) (hx : Hx dx = some (.xd [("given", v)]))
    (q : ∀ p H1 H', Same Hx H1 → H1 p = none → H' = upd H1 p (.lst [.str (Str.ofString "base"), .bl false, v]) → Q (.ref p) H') :
    tOp (rCatL K) (tLst (tCons (tC (.str (Str.ofString "base"))) (tCons (tCB (rIsP K a2 (.ref (C j)) (some dx)) (tCons (tVar 2) (tCons (tC (.ref (C 19))) tNil))) tNil)))
      (fun σ H Q => (tCons (tOp (rIxL K) (tLst (tCons (tC (.int 4)) (tCons (tC (.int 18)) (tCons (tC (.int 19)) (tCons (tC (.int 16)) tNil))))) (tVar 0)) (tCons (tVar 2) tNil)) σ H fun vs H1 => spK K a2 (.ref (C j)) (some dx) vs H1 Q) [some (.int n), some y, some (.ref a2)] Hx Q := by
  refine ⟨_, rfl, C j, _, _, false, rfl, rfl, hc, .own _, hkit, fun dd e => by cases e; exact ⟨_, hx⟩, by show 2 ≤ sizeLine; decide, fun p1 hp1 => ?_⟩
  refine ⟨by show 4 ≤ sizeLine; decide, fun p2 hp2 => ?_⟩
  have s1 := same_upd (o := .lst [.str (Str.ofString "base"), .bl false]) hp1
  have s2 := same_upd (o := .lst [.int 4, .int 18, .int 19, .int 16]) hp2
  refine ⟨_, rfl, p2, _, n, .int (if n = 0 then 4 else 16), rfl, rfl, SqL.of upd_same, by rcases hj with ⟨rfl, _⟩ | ⟨rfl, _⟩ <;> rfl, _, rfl, (if n = 0 then 4 else 16), rfl, .inl ⟨by split <;> decide, C j, dx, v, rfl, rfl, g, s2 _ _ (s1 _ _ hx), fun p3 hp3 => ?_⟩⟩
  have s3 := same_upd (o := .lst [v]) hp3
  refine ⟨p1, p3, _, _, rfl, rfl, SqL.of (s3 _ _ (s2 _ _ upd_same)), SqL.of upd_same, by show 2 + 1 ≤ sizeLine; decide, fun p4 hp4 => q p4 _ _ ((s1.trans s2).trans s3) hp4 rfl⟩
section
variable {P : Program} {w : World} {K : PySem.W.Frag} {mg : Str → Option Value} {base : Heap} {C : Nat → Addr}
theorem ok__law_met {k : Nat} {f fk : Addr} {fd fdk : FuncData} (F : L2.Fun K "_law_met" "_law_met" s__law_met f fd)
    (hcs : ∀ D ∈ cs C, ExcC K D) (g1 : ∀ D ∈ cs C, FldK K D "given") (g2 : ∀ D ∈ cs C, FldK K D "spot")
    (hexm : ∀ i ∈ [4, 16, 18, 19], ∀ j ∈ [5, 18, 22, 23], PySem.W.exmOne K (.ref (C i)) (.ref (C j)) = some (i == j || j == 23))
    (hkit : ∀ i ∈ [4, 16, 19], PySem.W.kitOne K (.ref (C i)) (.ref (C 19)) = some (i == 19))
    (gc5 : mg ("InvalidNodes" : Str) = some (.ref (C 5))) (gc18 : mg ("BadText" : Str) = some (.ref (C 18))) (gc22 : mg ("NoPicture" : Str) = some (.ref (C 22))) (gc23 : mg ("WeylError" : Str) = some (.ref (C 23))) (gc19 : mg ("NotFinite" : Str) = some (.ref (C 19)))
    (mk4 : MkE ⟨P, w, K, mg, base, [], defScope s__law_met, k, fun _ => true, none, []⟩ "InvalidNode" (C 4) "given") (mk18 : MkE ⟨P, w, K, mg, base, [], defScope s__law_met, k, fun _ => true, none, []⟩ "BadText" (C 18) "spot") (mk16 : MkE ⟨P, w, K, mg, base, [], defScope s__law_met, k, fun _ => true, none, []⟩ "TooMany" (C 16) "given")
    (mk19 : Mk0 ⟨P, w, K, mg, base, [], defScope s__law_met, k, fun _ => true, none, []⟩ "NotFinite" (C 19)) (ty19 : PySem.W.typeIn K (.ref (C 19)) = some (.type "type"))
    (m_isinstance : mg ("isinstance" : Str) = none) (Fk : L2.Fun K "_law_kept" "_law_kept" s__law_kept fk fdk) (bk : Binds K fdk ["number", "error"] []) (gk : mg ("_law_kept" : Str) = some (.ref fk)) :
    FnG P w K mg base CX0 (k + 1) f fd ["number", "thing"] (spD 2 false d__law_met) := by
  refine okG F sc__law_met (fun vs H Q E h => ?_) (fun cdv A outer s H vs Q E hgd hr h => ?_)
  · obtain ⟨Av, ds, r, z, _, h1, _, _, h4, _⟩ := h
    rw [h4.len, h1]
    rfl
  · obtain ⟨f4, d4, j4, T4, i4, t4, F4, h4, hm4, b4, _⟩ := mk4
    obtain ⟨f18, d18, j18, T18, i18, t18, F18, h18, hm18, b18, _⟩ := mk18
    obtain ⟨f16, d16, j16, T16, i16, t16, F16, h16, hm16, _, b16⟩ := mk16
    obtain ⟨bm, q19, E19, k19, hm19⟩ := mk19
    have hdp := room_depth hr
    have mem : ∀ i, i < 24 → C i ∈ cs C := fun i hi => List.mem_map.mpr ⟨i, List.mem_range.mpr hi, rfl⟩
    have r19 : PySem.W.subIn K (.ref (C 19)) (.type "BaseException") = some true := (hcs _ (mem 19 (by decide))).hs
    refine' ⟨_, pss_cons (ps_try_mix (Wout := fun _ _ _ _ => False) rfl rfl takes0 (fun W pn xe tk _ => ?B) ?Hh) ?R, ?T⟩
    case B =>
      exact (
        pss_cons (ps_if (pt_cmpR op_eq (pv 0) pe_int (nomark _)) (pss_one (ps_raise rfl tk (pmk_oex (C := C 4) (fI := f4) (k := j4) (fd := d4) (ps := ["self", "given"]) (sp := spI (C 4) "given") (ds := []) (dvs := []) T4 i4 t4 F4 (hr.mono h4) b4 .nil pass0 rfl hm4 (pa_cons (pv 1) pa_nil)))) pss_nil)
        (pss_cons (ps_if (pt_cmpR op_eq (pv 0) pe_int (nomark _)) (pss_one (ps_raise rfl tk (pmk_oex (C := C 18) (fI := f18) (k := j18) (fd := d18) (ps := ["self", "spot"]) (sp := spI (C 18) "spot") (ds := []) (dvs := []) T18 i18 t18 F18 (hr.mono h18) b18 .nil pass0 rfl hm18 (pa_cons (pv 1) pa_nil)))) pss_nil)
        (pss_cons (ps_if (pt_cmpR op_eq (pv 0) pe_int (nomark _)) (pss_one (ps_raise rfl tk (pmk_own0 (C := C 19) E19 q19 k19 (raises_own r19 ty19) rfl hm19))) pss_nil)
        (pss_one (ps_raise rfl tk (pmk_oexK (C := C 16) (fI := f16) (k := j16) (fd := d16) (ps := ["self", "given"]) (sp := spI (C 16) "given") (ks := ["given"]) T16 i16 t16 F16 (hr.mono h16) b16 rfl hm16 (pk_cons (pv 1) pk_nil)))))))
    case Hh =>
      refine' .one (c := .ref (C 5)) ⟨rfl, by decide, .inl gc5⟩ (fun a oe cls d pn hz hf => ?S1) (.as (c := .ref (C 18)) (i := 2) ⟨rfl, by decide, .inl gc18⟩ sc__law_met.nd rfl rfl (fun a oe cls d pn hz hf => ?S2)
        (.one (c := .ref (C 22)) ⟨rfl, by decide, .inl gc22⟩ (fun a oe cls d pn hz hf => ?S3) (.as (c := .ref (C 23)) (i := 2) ⟨rfl, by decide, .inl gc23⟩ sc__law_met.nd rfl rfl (fun a oe cls d pn hz hf => ?S4) .nil)))
      case S1 => exact pss_one (ps_ret (pe_lst (pa_cons pe_str pa_nil)))
      case S2 =>
        refine' pss_one (ps_ret (pe_lst (pa_cons pe_str (pa_cons ?PF pa_nil))))
        case PF => exact pe_pfK K rfl (te := tVar 2) (oe := oe) List.mem_cons_self hz hf (pv 2)
      case S3 => exact pss_one (ps_ret (pe_lst (pa_cons pe_str pa_nil)))
      case S4 => exact pss_one (ps_ret (pe_op (op_catLK K rfl)
          (pe_lst (pa_cons pe_str (pa_cons (pe_callB (call_isPK K rfl (a := a) (oe := oe) (cls := cls) (d := d) List.mem_cons_self hz hf) rfl m_isinstance (by decide +kernel) (pa_cons (pv 2) (pa_cons (pe_glob (v := .ref (C 19)) rfl gc19 rfl) pa_nil))) pa_nil)))
          (pe_kept K rfl (a := a) (oe := oe) (cls := cls) (d := d) List.mem_cons_self hz hf Fk bk gk hdp rfl (pa_cons (pe_ix (ix_listK K rfl) (pe_lst (pa_cons pe_int (pa_cons pe_int (pa_cons pe_int (pa_cons pe_int pa_nil))))) (pv 0) (by intro _ _; rfl)) (pa_cons (pv 2) pa_nil)))))
    case R => exact pss_one (ps_ret (pe_lst (pa_cons pe_str pa_nil)))
    obtain ⟨Av, ds, r, z, _, h1, ht, hm, hv, hq⟩ := h
    match ds, h1, hm, hv with
    | [x0, d], _, hm, .cons w0 (.cons w .nil) =>
      rename_i v0 v
      have fin0 : ∀ (p : Addr) (H1 : Hp) (xs : List V) (es : List D), r = .list es → Same H H1 → H1 p = none → Vas (upd H1 p (.lst xs)) Av xs es → Q (.ref p) (upd H1 p (.lst xs)) := fun p H1 xs es e s hp hv => by
        have s2 := same_upd (o := .lst xs) hp
        refine hq _ _ (s.trans s2) ?_
        show (if false = true then _ else _)
        rw [if_neg Bool.false_ne_true, e]
        exact .lst (.inl upd_same) (notAv ht s hp) hv
      unfold d__law_met at hm
      split at hm
      · -- number 0
        rename_i d1 hd1
        cases hd1
        cases hm
        cases w0
        refine ⟨_, rfl, rfl, _, rfl, ifT (by decide) ?_⟩
        refine ⟨_, rfl, by show 1 ≤ 1000; decide, fun a ha => ⟨a, v, rfl, upd_same, fun dx hdx hne => ⟨rfl, dx, [("given", v)], upd_same, by rw [upd_ne hne, upd_same], by rw [upd_ne hne] at hdx; exact hdx, ?_⟩⟩⟩
        have hd1 : H dx = none := by rw [upd_ne hne] at hdx; exact hdx
        have sx := raise_same (e0 := exo a (C 4) none) (e1 := exd dx [("given", v)]) (e2 := exo a (C 4) (some dx)) (e3 := .xd [("given", v)]) ha hd1
        refine ⟨false, hexm 4 (by decide) 5 (by decide), (fun z => nomatch z), fun _ => ⟨false, hexm 4 (by decide) 18 (by decide), (fun z => nomatch z), fun _ => ⟨false, hexm 4 (by decide) 22 (by decide), (fun z => nomatch z), fun _ => ⟨true, hexm 4 (by decide) 23 (by decide), fun _ a2 ha2 => ?_, (fun z => nomatch z)⟩⟩⟩⟩
        refine met_s4 (y := v) (.inl ⟨rfl, rfl⟩) (hcs _ (mem 4 (by decide))) (g1 _ (mem 4 (by decide))) (hkit 4 (by decide)) upd_same fun p H1 H' s hp e => ?_
        subst e
        exact fin0 p H1 _ _ rfl (sx.trans s) hp (.cons (.str _) (.cons (.bl _) (.cons (w.same ((sx.trans s).trans (same_upd hp))) .nil)))
      · -- number 1
        rename_i d1 hd1
        cases hd1
        cases hm
        cases w0
        refine ⟨_, rfl, rfl, _, rfl, ifF (by decide) ?_⟩
        refine ⟨_, rfl, rfl, _, rfl, ifT (by decide) ?_⟩
        refine ⟨_, rfl, by show 1 ≤ 1000; decide, fun a ha => ⟨a, v, rfl, upd_same, fun dx hdx hne => ⟨rfl, dx, [("spot", v)], upd_same, by rw [upd_ne hne, upd_same], by rw [upd_ne hne] at hdx; exact hdx, ?_⟩⟩⟩
        have hd1 : H dx = none := by rw [upd_ne hne] at hdx; exact hdx
        have sx := raise_same (e0 := exo a (C 18) none) (e1 := exd dx [("spot", v)]) (e2 := exo a (C 18) (some dx)) (e3 := .xd [("spot", v)]) ha hd1
        refine ⟨false, hexm 18 (by decide) 5 (by decide), (fun z => nomatch z), fun _ => ⟨true, hexm 18 (by decide) 18 (by decide), fun _ a2 ha2 => ?_, (fun z => nomatch z)⟩⟩
        refine ⟨_, rfl, rfl, C 18, dx, _, v, rfl, rfl, g2 _ (mem 18 (by decide)), upd_same, by simp [List.lookup], by show 2 ≤ sizeLine; decide, fun p hp => ?_⟩
        exact fin0 p _ _ _ rfl sx hp (.cons (.str _) (.cons (w.same (sx.trans (same_upd hp))) .nil))
      · -- number 2
        rename_i d1 hd1
        cases hd1
        cases hm
        cases w0
        refine ⟨_, rfl, rfl, _, rfl, ifF (by decide) ?_⟩
        refine ⟨_, rfl, rfl, _, rfl, ifF (by decide) ?_⟩
        refine ⟨_, rfl, rfl, _, rfl, ifT (by decide) ?_⟩
        refine ⟨false, hexm 19 (by decide) 5 (by decide), (fun z => nomatch z), fun _ => ⟨false, hexm 19 (by decide) 18 (by decide), (fun z => nomatch z), fun _ => ⟨false, hexm 19 (by decide) 22 (by decide), (fun z => nomatch z), fun _ => ⟨true, hexm 19 (by decide) 23 (by decide), fun _ a2 ha2 => ?_, (fun z => nomatch z)⟩⟩⟩⟩
        refine ⟨_, rfl, C 19, _, _, true, rfl, rfl, hcs _ (mem 19 (by decide)), .own _, hkit 19 (by decide), fun dd e => (by cases e), by show 2 ≤ sizeLine; decide, fun p1 hp1 => ?_⟩
        refine ⟨by show 4 ≤ sizeLine; decide, fun p2 hp2 => ?_⟩
        have s1 := same_upd (o := .lst [.str (Str.ofString "base"), .bl true]) hp1
        have s2 := same_upd (o := .lst [.int 4, .int 18, .int 19, .int 16]) hp2
        refine ⟨_, rfl, p2, _, 2, .int 19, rfl, rfl, SqL.of upd_same, rfl, _, rfl, 19, rfl, .inr ⟨rfl, fun p3 hp3 => ?_⟩⟩
        have s3 := same_upd (o := .lst []) hp3
        refine ⟨p1, p3, _, _, rfl, rfl, SqL.of (s3 _ _ (s2 _ _ upd_same)), SqL.of upd_same, by show 2 + 0 ≤ sizeLine; decide, fun p4 hp4 => ?_⟩
        exact fin0 p4 _ _ _ rfl ((s1.trans s2).trans s3) hp4 (.cons (.str _) (.cons (.bl _) .nil))
      · -- number 3
        rename_i d1 hd1
        cases hd1
        cases hm
        cases w0
        refine ⟨_, rfl, rfl, _, rfl, ifF (by decide) ?_⟩
        refine ⟨_, rfl, rfl, _, rfl, ifF (by decide) ?_⟩
        refine ⟨_, rfl, rfl, _, rfl, ifF (by decide) ?_⟩
        refine ⟨_, rfl, by show 1 ≤ 1000; decide, fun a ha => ⟨a, v, rfl, upd_same, fun dx hdx hne => ⟨rfl, dx, [("given", v)], upd_same, by rw [upd_ne hne, upd_same], by rw [upd_ne hne] at hdx; exact hdx, ?_⟩⟩⟩
        have hd1 : H dx = none := by rw [upd_ne hne] at hdx; exact hdx
        have sx := raise_same (e0 := exo a (C 16) none) (e1 := exd dx [("given", v)]) (e2 := exo a (C 16) (some dx)) (e3 := .xd [("given", v)]) ha hd1
        refine ⟨false, hexm 16 (by decide) 5 (by decide), (fun z => nomatch z), fun _ => ⟨false, hexm 16 (by decide) 18 (by decide), (fun z => nomatch z), fun _ => ⟨false, hexm 16 (by decide) 22 (by decide), (fun z => nomatch z), fun _ => ⟨true, hexm 16 (by decide) 23 (by decide), fun _ a2 ha2 => ?_, (fun z => nomatch z)⟩⟩⟩⟩
        refine met_s4 (y := v) (.inr ⟨rfl, rfl⟩) (hcs _ (mem 16 (by decide))) (g1 _ (mem 16 (by decide))) (hkit 16 (by decide)) upd_same fun p H1 H' s hp e => ?_
        subst e
        exact fin0 p H1 _ _ rfl (sx.trans s) hp (.cons (.str _) (.cons (.bl _) (.cons (w.same ((sx.trans s).trans (same_upd hp))) .nil)))
      · cases hm
end
end Fw
set_option Elab.async false
set_option linter.all false
set_option maxRecDepth 100000
set_option maxHeartbeats 4000000
/-! P01: what the denotations of law k01 tell. -/
namespace Fw
open PySem PySem.Spec L2
theorem ix0 : L2.ixN 3 0 = some 0 := rfl
theorem ix1 : L2.ixN 3 1 = some 1 := rfl
theorem ix2 : L2.ixN 3 2 = some 2 := rfl
/-- the pot: digits, state, how many draws -/
def PotOk (n : Nat) (p : D) : Prop := ∃ a b c : Int, p = .list [.int a, .int b, .int c] ∧ 0 ≤ a ∧ 0 ≤ b ∧ b < 2147483477 ∧ 0 ≤ c ∧ c ≤ n ∧ n ≤ 1000000
theorem PotOk.mono {m n : Nat} {p : D} (h : PotOk m p) (k : m ≤ n) (kn : n ≤ 1000000) : PotOk n p := by
  obtain ⟨a, b, c, e, h1, h2, h3, h4, h5, h6⟩ := h
  exact ⟨a, b, c, e, h1, h2, h3, h4, by omega, kn⟩
theorem log2_lt {i : Int} {n : Nat} (h : i.natAbs < 2 ^ n) (hn : 0 < n) : i.natAbs.log2 < n := PySem.Flt.log2_lt_of hn h
theorem draw_ok {n : Nat} {p : D} {few : Int} (h : PotOk n p) (hn : n < 1000000) (hf : 0 < few) (hl : few.natAbs.log2 < 9000) :
    ∃ x p', d__law_draw [p, .int few] = some (.int x, p') ∧ 0 ≤ x ∧ x < few ∧ PotOk (n + 1) p' := by
  obtain ⟨a, b, c, rfl, h1, h2, h3, h4, h5, h6⟩ := h
  by_cases ha : 0 < a
  · refine ⟨a % few, .list [.int (a / few), .int b, .int c], ?_, Int.emod_nonneg _ (by omega), Int.emod_lt_of_pos _ hf, _, _, _, rfl, Int.ediv_nonneg h1 (by omega), h2, h3, h4, by omega, by omega⟩
    simp [ix0, ix1, ix2, d__law_draw, runP, b__law_draw, sSeq, sIf, bV, eB, eV, eC, eF, aC, aN, dIx, atD, dGt, iOp, sAsg, f2, dDivmod, gT, gTs, gIx, gN, sRet, ha, hf, hl]
  · let b' : Int := (b * (44021 + 6 * (c + 1)) + 60029 + (c + 1)) % 2147483477
    refine ⟨(b' / 61) % few, .list [.int a, .int b', .int (c + 1)], ?_, Int.emod_nonneg _ (by omega), Int.emod_lt_of_pos _ hf, _, _, _, rfl, h1, Int.emod_nonneg _ (by omega), Int.emod_lt_of_pos _ (by omega), by omega, by omega, by omega⟩
    have l1 : b.natAbs.log2 < 64 := log2_lt (by omega) (by omega)
    have l2 : (44021 + 6 * (c + 1)).natAbs.log2 < 64 := log2_lt (by omega) (by omega)
    have l3 : (6 : Int).natAbs.log2 + (c + 1).natAbs.log2 < 1000000 := by
      have : (c + 1).natAbs.log2 < 64 := log2_lt (by omega) (by omega)
      have : (6 : Int).natAbs.log2 = 2 := by decide
      omega
    have l4 : b.natAbs.log2 + (44021 + 6 * (c + 1)).natAbs.log2 < 1000000 := by omega
    have l5 : Nat.log2 61 < 9000 := by decide
    have l6 : Nat.log2 6 + (c + 1).natAbs.log2 < 1000000 := l3
    simp [ix0, ix1, ix2, d__law_draw, runP, b__law_draw, sSeq, sIf, bV, eB, eV, eC, eF, aC, aN, dIx, atD, dGt, iOp, sPut, f1, dInt, dAdd, dMul, dMod, dDiv, sRet, sNx, ha, hf, l4, l5, l6, b']
/-! ### the pot -/
def potBody : SM := sSet 2 (eB dMod (eF (f1 dInt) (aC (eB dAdd (eB dAdd (eB dMul (eV 2) (eC (.int 50021))) (eB dMul (eB dMod (eF (f1 dInt) (aC (eV 3) aN)) (eC (.int 1999999973))) (eC (.int 3)))) (eC (.int 17))) aN)) (eC (.int 2147483477)))
theorem pot_loop (sc t : Option D) : ∀ (xs : List Int) (s : Int) (x3 : Option D), 0 ≤ s → s < 2147483477 →
    ∃ s' x3', forL (gN 3) potBody (xs.map PyData.int) [sc, t, some (.int s), x3, none, none] = some (.nx, [sc, t, some (.int s'), x3', none, none]) ∧ 0 ≤ s' ∧ s' < 2147483477
  | [], s, x3, h0, h1 => ⟨s, x3, rfl, h0, h1⟩
  | x :: xs, s, x3, h0, h1 => by
    have l1 : s.natAbs.log2 < 64 := log2_lt (by omega) (by omega)
    have h2 : 0 ≤ x % 1999999973 := Int.emod_nonneg _ (by omega)
    have h3 : x % 1999999973 < 1999999973 := Int.emod_lt_of_pos _ (by omega)
    have l2 : (x % 1999999973).natAbs.log2 < 64 := log2_lt (by omega) (by omega)
    have l3 : s.natAbs.log2 + Nat.log2 50021 < 1000000 := by have : Nat.log2 50021 = 15 := by decide +kernel
                                                             omega
    have l4 : (x % 1999999973).natAbs.log2 + Nat.log2 3 < 1000000 := by have : Nat.log2 3 = 1 := by decide +kernel
                                                                        omega
    obtain ⟨s', x3', e, h4, h5⟩ := pot_loop sc t xs ((s * 50021 + x % 1999999973 * 3 + 17) % 2147483477) (some (.int x)) (Int.emod_nonneg _ (by omega)) (Int.emod_lt_of_pos _ (by omega))
    refine ⟨s', x3', ?_, h4, h5⟩
    rw [List.map_cons, forL_cons (e1 := [sc, t, some (.int s), some (.int x), none, none]) (e2 := [sc, t, some (.int ((s * 50021 + x % 1999999973 * 3 + 17) % 2147483477)), some (.int x), none, none]) rfl (by simp [potBody, sSeq, sIf, bV, eB, eU, eV, eC, eF, aC, aN, eI, dIx, atD, dGt, dLt, dLe, dGe, iOp, sAsg, f1, f2, dDivmod, gT, gTs, gIx, gN, sRet, sNx, sSet, sPut, dInt, dAdd, dSub, dMul, dMod, dDiv, dNeg, dLen, bOr, bAnd, bNot, eNot, eAnd, eOr, eCall, eCallP, yes, dLst, dTup, l3, l4])]
    exact e
theorem cutD_up {xs : List D} {n : Nat} : cutD xs none (some (n : Int)) = xs.take n := by
  unfold cutD
  rw [HT.sIx_none, HT.sIx_nat, Nat.sub_zero, List.drop_zero]
  rw [List.take_eq_take_iff]
  omega
theorem atD_nat {xs : List D} {i : Nat} {d : D} (h : xs[i]? = some d) : atD xs (i : Int) = some d := by
  unfold atD L2.ixN
  have hl : i < xs.length := by
    obtain ⟨h1, _⟩ := List.getElem?_eq_some_iff.mp h
    exact h1
  rw [if_pos (by omega), if_pos (by omega)]
  simpa using h
theorem pot_ok {ns : List Int} {t : Nat} (ht2 : t < 64) (hl : ns.length ≤ 63) : ∃ p z, d__law_pot [.list (ns.map PyData.int), .int (t : Int)] = some (p, z) ∧ PotOk 0 p := by
  obtain ⟨s, x3, e1, h1, h2⟩ := pot_loop (some (.list (ns.map PyData.int))) (some (.int (t : Int))) (ns.take 11) (733001 + 4409 * (t : Int)) none (by omega) (by omega)
  have l1 : Nat.log2 4409 + (t : Int).natAbs.log2 < 1000000 := by
    have : (t : Int).natAbs.log2 < 64 := log2_lt (by omega) (by omega)
    have : Nat.log2 4409 = 12 := by decide +kernel
    omega
  have l1' : Nat.log2 4409 + t.log2 < 1000000 := l1
  have l2 : s.natAbs.log2 + Nat.log2 30011 < 1000000 := by
    have : s.natAbs.log2 < 64 := log2_lt (by omega) (by omega)
    have : Nat.log2 30011 = 14 := by decide +kernel
    omega
  have cut : cutD (ns.map PyData.int) none (some 11) = (ns.take 11).map PyData.int := by
    rw [show (11 : Int) = ((11 : Nat) : Int) from rfl, cutD_up, List.map_take]
  obtain ⟨cell, hc⟩ : ∃ cell : Int, (if t < ns.length then atD (ns.map PyData.int) (t : Int) = some (.int cell) else cell = 0) := by
    by_cases h : t < ns.length
    · exact ⟨ns[t], by rw [if_pos h]; exact atD_nat (by simp [h])⟩
    · exact ⟨0, by rw [if_neg h]⟩
  have e2 : ∀ env, (sSet 4 (eI (bV (eB dLt (eV 1) (eF (f1 dLen) (aC (eV 0) aN)))) (eF (f1 dInt) (aC (eB dIx (eV 0) (eV 1)) aN)) (eC (.int 0)))) (some (.list (ns.map PyData.int)) :: some (.int (t : Int)) :: env) = some (.nx, (some (.list (ns.map PyData.int)) :: some (.int (t : Int)) :: env).set 4 (some (.int cell))) := fun env => by
    by_cases h : t < ns.length
    · rw [if_pos h] at hc
      simp [sSeq, sIf, bV, eB, eU, eV, eC, eF, aC, aN, eI, dIx, dGt, dLt, dLe, dGe, iOp, sAsg, f1, f2, dDivmod, gT, gTs, gIx, gN, sRet, sNx, sSet, sPut, dInt, dAdd, dSub, dMul, dMod, dDiv, dNeg, dLen, bOr, bAnd, bNot, eNot, eAnd, eOr, eCall, eCallP, yes, dLst, dTup, h, hc]
    · rw [if_neg h] at hc
      simp [sSeq, sIf, bV, eB, eU, eV, eC, eF, aC, aN, eI, dIx, dGt, dLt, dLe, dGe, iOp, sAsg, f1, f2, dDivmod, gT, gTs, gIx, gN, sRet, sNx, sSet, sPut, dInt, dAdd, dSub, dMul, dMod, dDiv, dNeg, dLen, bOr, bAnd, bNot, eNot, eAnd, eOr, eCall, eCallP, yes, dLst, dTup, h, hc]
  obtain ⟨ab, hab⟩ : ∃ ab : Int, (if cell < 0 then -cell else cell) = ab := ⟨_, rfl⟩
  have hab0 : 0 ≤ ab := by rw [← hab]; split <;> omega
  let dg : Int := if 10000000000000000 ≤ ab then ab else 0
  refine ⟨.list [.int dg, .int ((s * 30011 + cell % 1999999973 + 7) % 2147483477), .int 0], .none, ?_, _, _, _, rfl, by show 0 ≤ dg; simp only [dg]; split <;> omega, Int.emod_nonneg _ (by omega), Int.emod_lt_of_pos _ (by omega), by omega, by omega, by omega⟩
  have e3 : (sFor (aS (eS dCutL (eV 0) oN (oS (eC (.int 11))))) (gN 3) potBody) [some (.list (ns.map PyData.int)), some (.int (t : Int)), some (.int (733001 + 4409 * (t : Int))), none, none, none] = some (.nx, [some (.list (ns.map PyData.int)), some (.int (t : Int)), some (.int s), x3, none, none]) := by
    rw [← e1]
    simp [sFor, aS, eS, oN, oS, dCutL, eV, eC, cut]
  have e4 : sSet 5 (eI (bV (eB dGe (eF (f1 dAbs) (aC (eV 4) aN)) (eB dPow (eC (.int 10)) (eC (.int 16))))) (eF (f1 dAbs) (aC (eV 4) aN)) (eC (.int 0))) [some (.list (ns.map PyData.int)), some (.int (t : Int)), some (.int s), x3, some (.int cell), none] = some (.nx, [some (.list (ns.map PyData.int)), some (.int (t : Int)), some (.int s), x3, some (.int cell), some (.int dg)]) := by
    have p : ((10 : Int) ^ (16 : Int).toNat) = 10000000000000000 := by decide
    by_cases h' : 10000000000000000 ≤ ab
    · have e : dg = ab := if_pos h'
      simp [sSeq, sIf, bV, eB, eU, eV, eC, eF, aC, aN, eI, dIx, atD, dGt, dLt, dLe, dGe, iOp, sAsg, f1, f2, dDivmod, gT, gTs, gIx, gN, sRet, sNx, sSet, sPut, dInt, dAdd, dSub, dMul, dMod, dDiv, dNeg, dLen, bOr, bAnd, bNot, eNot, eAnd, eOr, eCall, eCallP, yes, dLst, dTup, dAbs, dPow, p, h', e, hab]
    · have e : dg = 0 := if_neg h'
      simp [sSeq, sIf, bV, eB, eU, eV, eC, eF, aC, aN, eI, dIx, atD, dGt, dLt, dLe, dGe, iOp, sAsg, f1, f2, dDivmod, gT, gTs, gIx, gN, sRet, sNx, sSet, sPut, dInt, dAdd, dSub, dMul, dMod, dDiv, dNeg, dLen, bOr, bAnd, bNot, eNot, eAnd, eOr, eCall, eCallP, yes, dLst, dTup, dAbs, dPow, p, h', e, hab]
  have s1 : sSet 2 (eB dAdd (eC (.int 733001)) (eB dMul (eC (.int 4409)) (eV 1))) [some (.list (ns.map PyData.int)), some (.int (t : Int)), none, none, none, none] = some (.nx, [some (.list (ns.map PyData.int)), some (.int (t : Int)), some (.int (733001 + 4409 * (t : Int))), none, none, none]) := by
    simp [sSeq, sIf, bV, eB, eU, eV, eC, eF, aC, aN, eI, dIx, atD, dGt, dLt, dLe, dGe, iOp, sAsg, f1, f2, dDivmod, gT, gTs, gIx, gN, sRet, sNx, sSet, sPut, dInt, dAdd, dSub, dMul, dMod, dDiv, dNeg, dLen, bOr, bAnd, bNot, eNot, eAnd, eOr, eCall, eCallP, yes, dLst, dTup, l1']
  have s6 : sRet (eF dLst (aC (eV 5) (aC (eB dMod (eF (f1 dInt) (aC (eB dAdd (eB dAdd (eB dMul (eV 2) (eC (.int 30011))) (eB dMod (eF (f1 dInt) (aC (eV 4) aN)) (eC (.int 1999999973)))) (eC (.int 7))) aN)) (eC (.int 2147483477))) (aC (eC (.int 0)) aN)))) [some (.list (ns.map PyData.int)), some (.int (t : Int)), some (.int s), x3, some (.int cell), some (.int dg)] = some (.rt (.list [.int dg, .int ((s * 30011 + cell % 1999999973 + 7) % 2147483477), .int 0]), [some (.list (ns.map PyData.int)), some (.int (t : Int)), some (.int s), x3, some (.int cell), some (.int dg)]) := by
    simp [sSeq, sIf, bV, eB, eU, eV, eC, eF, aC, aN, eI, dIx, atD, dGt, dLt, dLe, dGe, iOp, sAsg, f1, f2, dDivmod, gT, gTs, gIx, gN, sRet, sNx, sSet, sPut, dInt, dAdd, dSub, dMul, dMod, dDiv, dNeg, dLen, bOr, bAnd, bNot, eNot, eAnd, eOr, eCall, eCallP, yes, dLst, dTup, l2]
  refine runD_rt rfl (e' := [some (.list (ns.map PyData.int)), some (.int (t : Int)), some (.int s), x3, some (.int cell), some (.int dg)]) ?_
  show b__law_pot [some (.list (ns.map PyData.int)), some (.int (t : Int)), none, none, none, none] = _
  exact (seq_nx s1).trans ((seq_nx e3).trans ((seq_nx (e2 _)).trans ((seq_nx e4).trans s6)))
/-! ### picks -/
theorem pick_ok {n : Nat} {p : D} {xs : List D} (h : PotOk n p) (hn : n < 1000000) (h0 : xs ≠ []) (hl : xs.length < 2 ^ 64) :
    ∃ x p', d__law_pick [p, .list xs] = some (x, p') ∧ x ∈ xs ∧ PotOk (n + 1) p' := by
  have l0 : 0 < xs.length := List.length_pos_iff.mpr h0
  obtain ⟨i, p', e, h1, h2, h3⟩ := draw_ok (few := (xs.length : Int)) h hn (by omega) (by
    have : (xs.length : Int).natAbs.log2 < 64 := log2_lt (by omega) (by omega)
    omega)
  obtain ⟨j, rfl⟩ := Int.eq_ofNat_of_zero_le h1
  have hj : j < xs.length := by omega
  refine ⟨xs[j], p', ?_, List.getElem_mem _, h3⟩
  have ha : atD xs (j : Int) = some xs[j] := atD_nat (by simp [hj])
  simp [d__law_pick, runP, b__law_pick, sSeq, sIf, bV, eB, eU, eV, eC, eF, aC, aN, eI, dIx, dGt, dLt, dLe, dGe, iOp, sAsg, f1, f2, dDivmod, gT, gTs, gIx, gN, sRet, sNx, sSet, sPut, dInt, dAdd, dSub, dMul, dMod, dDiv, dNeg, dLen, bOr, bAnd, bNot, eNot, eAnd, eOr, eCall, eCallP, yes, dLst, dTup, e, ha]
/-! ### things -/
/-- a thing of this weight and depth: repr tells it -/
def Th (k W : Nat) (d : D) : Prop := plain d = true ∧ d.showable = true ∧ d.depth ≤ k ∧ d.leavesShort 40 = true ∧ d.weight ≤ W
def odds : List D := [.none, .bool true, .bool false, .int 0, .int 1, .int (-1), .int 2, .int (10 ^ 30), .str (Str.ofString ""), .str (Str.ofString "A2"), .str (Str.ofString "x"), .tuple [], .tuple [.int 2], .tuple [.tuple [.int 2]], .tuple [.tuple [.int 2, .int 0], .tuple [.int 0, .int 2]], .tuple [.int 0, .int 1], .tuple [.int 1, .int 0],
  .list [], .list [.list [.int 2]], .dict [], .tuple [.tuple [.int 2, .int (-1)], .tuple [.int (-1)]], .tuple [.tuple [.bool true]], .tuple [.none], .tuple [.str (Str.ofString "0")], .tuple [.tuple [.int 1, .int 2], .int 3], .tuple [.int 0, .int 0], .tuple [.int (-1), .int 0], .tuple [.int 1, .int 1, .int 1], .tuple [.bool true, .int 0]]
theorem odds_th : ∀ d ∈ odds, Th 3 200 d := by
  have h : odds.all (fun d => plain d && d.showable && decide (d.depth ≤ 3) && d.leavesShort 40 && decide (d.weight ≤ 200)) = true := by decide +kernel
  intro d hd
  have := List.all_eq_true.mp h d hd
  simp only [Bool.and_eq_true, decide_eq_true_eq] at this
  obtain ⟨⟨⟨⟨h1, h2⟩, h3⟩, h4⟩, h5⟩ := this
  exact ⟨h1, h2, h3, h4, h5⟩
theorem odd_ok {n : Nat} {p : D} (h : PotOk n p) (hn : n < 1000000) : ∃ x p', d__law_odd [p] = some (x, p') ∧ Th 3 200 x ∧ PotOk (n + 1) p' := by
  obtain ⟨x, p', e, h1, h2⟩ := pick_ok (xs := odds) h hn (by simp [odds]) (by simp [odds])
  refine ⟨x, p', ?_, odds_th x h1, h2⟩
  refine runP_rt (e' := [some (.list (odds.take 17)), some (.list (odds.drop 17))]) rfl ?_
  show b__law_odd [some p, none, none] = _
  have s1 : ∀ m, m [some p, none, none] = some (.list (odds.take 17), [some p, none, none]) → sSet 1 m [some p, none, none] = some (.nx, [some p, some (.list (odds.take 17)), none]) := fun m h => set_nx h
  have s2 : ∀ m, m [some p, some (.list (odds.take 17)), none] = some (.list (odds.drop 17), [some p, some (.list (odds.take 17)), none]) → sSet 2 m [some p, some (.list (odds.take 17)), none] = some (.nx, [some p, some (.list (odds.take 17)), some (.list (odds.drop 17))]) := fun m h => set_nx h
  refine (seq_nx (s1 _ (by rfl))).trans ((seq_nx (s2 _ (by rfl))).trans (ret_rt ?_))
  have c : dCat (.list (odds.take 17)) (.list (odds.drop 17)) = some (.list odds) := rfl
  simp only [eCallP, aC, eB, eV, List.getElem?_cons_succ, List.getElem?_cons_zero, c, aN, e, yes, and_self, if_true, List.set_cons_zero]
theorem Th.mono {k k' W W' : Nat} {d : D} (h : Th k W d) (hk : k ≤ k') (hw : W ≤ W') : Th k' W' d := by
  obtain ⟨h1, h2, h3, h4, h5⟩ := h
  exact ⟨h1, h2, Nat.le_trans h3 hk, h4, Nat.le_trans h5 hw⟩
theorem th_int {i : Int} (h : i.natAbs < 10 ^ 13) : Th 3 200 (.int i) := by
  have l : i.natAbs.log2 < 64 := log2_lt (by omega) (by omega)
  refine ⟨rfl, ?_, ?_, ?_, ?_⟩
  · simp only [PyData.showable, decide_eq_true_eq]
    omega
  · simp [PyData.depth]
  · simp only [PyData.leavesShort, decide_eq_true_eq, PyData.shown]
    have := PySem.int_text_length_le10 (k := 13) (by decide) h
    refine decide_eq_true ?_
    rw [PySem.ofString_length]
    omega
  · simp only [PyData.weight]
    split <;> omega
theorem th_all {k W : Nat} : ∀ {xs : List D}, (∀ x ∈ xs, Th k W x) → plains xs = true ∧ PyData.showableAll xs = true ∧ PyData.depthAll xs ≤ k ∧ PyData.leavesShortAll 40 xs = true ∧ PyData.weightAll xs ≤ xs.length * (W + 1)
  | [], _ => ⟨rfl, rfl, Nat.zero_le _, rfl, Nat.zero_le _⟩
  | x :: xs, h => by
    obtain ⟨h1, h2, h3, h4, h5⟩ := h x List.mem_cons_self
    obtain ⟨g1, g2, g3, g4, g5⟩ := th_all (xs := xs) fun y hy => h y (List.mem_cons_of_mem _ hy)
    refine ⟨by simp [plains, h1, g1], by simp [PyData.showableAll, h2, g2], by simp [PyData.depthAll]; omega, by simp [PyData.leavesShortAll, h4, g4], ?_⟩
    simp only [PyData.weightAll, List.length_cons, Nat.add_mul]
    omega
theorem th_tup {k W : Nat} {xs : List D} (h : ∀ x ∈ xs, Th k W x) : Th (k + 1) (xs.length * (W + 1)) (.tuple xs) := by
  obtain ⟨g1, g2, g3, g4, g5⟩ := th_all h
  exact ⟨by simpa [plain] using g1, by simpa [PyData.showable] using g2, by simp only [PyData.depth]; omega, by simpa [PyData.leavesShort] using g4, by simpa only [PyData.weight] using g5⟩
theorem th_list {k W : Nat} {xs : List D} (h : ∀ x ∈ xs, Th k W x) : Th (k + 1) (xs.length * (W + 1)) (.list xs) := by
  obtain ⟨g1, g2, g3, g4, g5⟩ := th_all h
  exact ⟨by simpa [plain] using g1, by simpa [PyData.showable] using g2, by simp only [PyData.depth]; omega, by simpa [PyData.leavesShort] using g4, by simpa only [PyData.weight] using g5⟩
theorem th_repr {k W : Nat} {d : D} (h : Th k W d) (hs : isSeq d = true) (hk : k ≤ 64) (hw : W ≤ 100000) : dRepr d = some (.str d.shown) := by
  obtain ⟨h1, h2, h3, h4, h5⟩ := h
  have l := PyData.shown_le 40 (by decide) d h4
  exact if_pos ⟨hs, h1, h2, by omega, by omega⟩
/-- what a drawn thing is, for a rule of what stands in it -/
theorem thing_ok {r : List D → Option (D × D)} {k W c n : Nat} {deep : Int} (hd : 0 ≤ deep)
    (hr : deep ≠ 0 → ∀ n p, PotOk n p → n + c < 1000000 → ∃ x p', r [p, .int (deep - 1)] = some (x, p') ∧ Th k W x ∧ PotOk (n + c) p') (hk : 3 ≤ k) (hw : 200 ≤ W)
    {p : D} (h : PotOk n p) (hn : n + 2 + 3 * c < 1000000) : ∃ x p', d__law_thing r [p, .int deep] = some (x, p') ∧ Th (k + 1) (3 * (W + 1)) x ∧ PotOk (n + 2 + 3 * c) p' := by
  obtain ⟨w, p1, e1, a1, a2, q1⟩ := draw_ok (few := 6) h (by omega) (by omega) (by decide +kernel)
  have s1 : sSet 2 (eCallP 0 yes yes d__law_draw (aC (eC (.int 6)) aN)) [some p, some (.int deep), none, none, none] = some (.nx, [some p1, some (.int deep), some (.int w), none, none]) := by
    simp [sSeq, sIf, bV, eB, eU, eV, eC, eF, aC, aN, eI, dIx, dGt, dLt, dLe, dGe, iOp, sAsg, f1, f2, dDivmod, gT, gTs, gIx, gN, sRet, sNx, sSet, sPut, dInt, dAdd, dSub, dMul, dMod, dDiv, dNeg, dLen, bOr, bAnd, bNot, eNot, eAnd, eOr, eCall, eCallP, yes, dLst, dTup, e1]
  by_cases c1 : w < 2
  · obtain ⟨v, p2, e2, b1, b2, q2⟩ := draw_ok (few := 1000000000000) q1 (by omega) (by omega) (Nat.lt_trans (log2_lt (i := 1000000000000) (n := 64) (by decide) (by decide)) (by decide))
    refine ⟨.int (v - 400000), p2, ?_, (th_int (by omega)).mono (by omega) (by omega), q2.mono (by omega) (by omega)⟩
    refine runP_rt rfl (e' := [some (.int deep), some (.int w), none, none]) ?_
    have t2 : ((10 : Int) ^ (12 : Int).toNat) = 1000000000000 := by decide
    have t3 : ((10 : Int) ^ (5 : Int).toNat) = 100000 := by decide
    have l : Nat.log2 4 + Nat.log2 100000 < 1000000 := by decide +kernel
    refine (seq_nx s1).trans (seq_rt ?_)
    simp [sSeq, sIf, bV, eB, eU, eV, eC, eF, aC, aN, eI, dIx, dGt, dLt, dLe, dGe, iOp, sAsg, f1, f2, dDivmod, gT, gTs, gIx, gN, sRet, sNx, sSet, sPut, dInt, dAdd, dSub, dMul, dMod, dDiv, dNeg, dLen, bOr, bAnd, bNot, eNot, eAnd, eOr, eCall, eCallP, yes, dLst, dTup, dPow, c1, e2, t2, t3, l]
  · by_cases c2 : w < 5 ∨ deep = 0
    · obtain ⟨x, p2, e2, th, q2⟩ := odd_ok q1 (by omega)
      refine ⟨x, p2, ?_, th.mono (by omega) (by omega), q2.mono (by omega) (by omega)⟩
      refine runP_rt rfl (e' := [some (.int deep), some (.int w), none, none]) ?_
      refine (seq_nx s1).trans ((seq_nx (e1 := [some p1, some (.int deep), some (.int w), none, none]) ?_).trans (seq_rt ?_))
      · simp [sSeq, sIf, bV, eB, eU, eV, eC, eF, aC, aN, eI, dIx, dGt, dLt, dLe, dGe, iOp, sAsg, f1, f2, dDivmod, gT, gTs, gIx, gN, sRet, sNx, sSet, sPut, dInt, dAdd, dSub, dMul, dMod, dDiv, dNeg, dLen, bOr, bAnd, bNot, eNot, eAnd, eOr, eCall, eCallP, yes, dLst, dTup, c1]
      · rcases c2 with c2 | c2
        · simp [sSeq, sIf, bV, eB, eU, eV, eC, eF, aC, aN, eI, dIx, dGt, dLt, dLe, dGe, iOp, sAsg, f1, f2, dDivmod, gT, gTs, gIx, gN, sRet, sNx, sSet, sPut, dInt, dAdd, dSub, dMul, dMod, dDiv, dNeg, dLen, bOr, bAnd, bNot, eNot, eAnd, eOr, eCall, eCallP, yes, dLst, dTup, c2, e2]
        · subst c2
          have z : SeqAt.shaped (.int 0 : D) = true ∧ PyData.eqv (.int 0 : D) (.int 0) = true := by decide
          by_cases c3 : w < 5
          · simp [sSeq, sIf, bV, eB, eU, eV, eC, eF, aC, aN, eI, dIx, dGt, dLt, dLe, dGe, iOp, sAsg, f1, f2, dDivmod, gT, gTs, gIx, gN, sRet, sNx, sSet, sPut, dInt, dAdd, dSub, dMul, dMod, dDiv, dNeg, dLen, bOr, bAnd, bNot, eNot, eAnd, eOr, eCall, eCallP, yes, dLst, dTup, c3, e2]
          · simp [sSeq, sIf, bV, eB, eU, eV, eC, eF, aC, aN, eI, dIx, dGt, dLt, dLe, dGe, iOp, sAsg, f1, f2, dDivmod, gT, gTs, gIx, gN, sRet, sNx, sSet, sPut, dInt, dAdd, dSub, dMul, dMod, dDiv, dNeg, dLen, bOr, bAnd, bNot, eNot, eAnd, eOr, eCall, eCallP, yes, dLst, dTup, c3, e2, dEq_int]
    · have c3 : ¬ w < 5 := fun h => c2 (.inl h)
      have c4 : deep ≠ 0 := fun h => c2 (.inr h)
      obtain ⟨m, p2, e2, b1, b2, q2⟩ := draw_ok (few := 4) q1 (by omega) (by omega) (by decide +kernel)
      -- the loop
      have loop : ∀ (ts : List D) (n : Nat) (p : D) (found : List D) (x4 : Option D), PotOk n p → n + ts.length * c < 1000000 → (∀ x ∈ found, Th k W x) → found.length + ts.length ≤ 3 →
          ∃ p' found' x4', forL (gN 4) (sUpd 3 (eCallP 0 yes yes r (aC (eB dSub (eV 1) (eC (.int 1))) aN)) appD) ts [some p, some (.int deep), some (.int w), some (.list found), x4] = some (.nx, [some p', some (.int deep), some (.int w), some (.list found'), x4']) ∧
            PotOk (n + ts.length * c) p' ∧ (∀ x ∈ found', Th k W x) ∧ found'.length ≤ 3 := by
        intro ts
        induction ts with
        | nil => intro n p found x4 q hn hf hl; exact ⟨p, found, x4, rfl, by simpa using q, hf, by simpa using hl⟩
        | cons t ts ih =>
          intro n p found x4 q hn hf hl
          simp only [List.length_cons, Nat.add_mul, Nat.one_mul] at hn hl
          obtain ⟨x, p', e, th, q'⟩ := hr c4 n p q (by omega)
          obtain ⟨p'', found', x4', e', q'', hf', hl'⟩ := ih (n + c) p' (found ++ [x]) (some t) q' (by omega) (fun y hy => by
            rcases List.mem_append.mp hy with hy | hy
            · exact hf y hy
            · rw [List.mem_singleton.mp hy]; exact th) (by simp; omega)
          refine ⟨p'', found', x4', ?_, by simp only [List.length_cons, Nat.add_mul, Nat.one_mul]; exact q''.mono (by omega) (by omega), hf', hl'⟩
          rw [forL_cons (e1 := [some p, some (.int deep), some (.int w), some (.list found), some t]) (e2 := [some p', some (.int deep), some (.int w), some (.list (found ++ [x])), some t]) rfl ?_]
          · exact e'
          · have : found.length < 16777216 := by omega
            simp [sUpd, appD, sSeq, sIf, bV, eB, eU, eV, eC, eF, aC, aN, eI, dIx, dGt, dLt, dLe, dGe, iOp, sAsg, f1, f2, dDivmod, gT, gTs, gIx, gN, sRet, sNx, sSet, sPut, dInt, dAdd, dSub, dMul, dMod, dDiv, dNeg, dLen, bOr, bAnd, bNot, eNot, eAnd, eOr, eCall, eCallP, yes, dLst, dTup, e, this]
      have hm : m.toNat ≤ 3 := by omega
      have hlen : (upTo 0 m.toNat).length = m.toNat := by simp [upTo]
      have hmc : m.toNat * c ≤ 3 * c := Nat.mul_le_mul_right c hm
      obtain ⟨p3, found, x4, e3, q3, hf, hl⟩ := loop (upTo 0 m.toNat) (n + 1 + 1) p2 [] none q2 (by rw [hlen]; omega) (fun x h => nomatch h) (by rw [hlen]; simpa using hm)
      refine ⟨.tuple found, p3, ?_, (th_tup hf).mono (by omega) (Nat.mul_le_mul_right _ hl), q3.mono (by rw [hlen]; omega) (by omega)⟩
      refine runP_rt rfl (e' := [some (.int deep), some (.int w), some (.list found), x4]) ?_
      have z : SeqAt.shaped (.int deep : D) = true ∧ SeqAt.shaped (.int 0 : D) = true ∧ PyData.eqv (.int deep : D) (.int 0) = false := by
        refine ⟨rfl, rfl, ?_⟩
        simpa [PyData.eqv] using c4
      have sm : small m = true := by unfold small; simp; omega
      refine (seq_nx s1).trans ((seq_nx (e1 := [some p1, some (.int deep), some (.int w), none, none]) ?_).trans ((seq_nx (e1 := [some p1, some (.int deep), some (.int w), none, none]) ?_).trans ((seq_nx (e1 := [some p1, some (.int deep), some (.int w), some (.list []), none]) ?_).trans ((seq_nx (e1 := [some p3, some (.int deep), some (.int w), some (.list found), x4]) ?_).trans (ret_rt ?_)))))
      · simp [sSeq, sIf, bV, eB, eU, eV, eC, eF, aC, aN, eI, dIx, dGt, dLt, dLe, dGe, iOp, sAsg, f1, f2, dDivmod, gT, gTs, gIx, gN, sRet, sNx, sSet, sPut, dInt, dAdd, dSub, dMul, dMod, dDiv, dNeg, dLen, bOr, bAnd, bNot, eNot, eAnd, eOr, eCall, eCallP, yes, dLst, dTup, c1]
      · simp [sSeq, sIf, bV, eB, eU, eV, eC, eF, aC, aN, eI, dIx, dGt, dLt, dLe, dGe, iOp, sAsg, f1, f2, dDivmod, gT, gTs, gIx, gN, sRet, sNx, sSet, sPut, dInt, dAdd, dSub, dMul, dMod, dDiv, dNeg, dLen, bOr, bAnd, bNot, eNot, eAnd, eOr, eCall, eCallP, yes, dLst, dTup, c3, dEq_int, c4]
      · simp [sSeq, sIf, bV, eB, eU, eV, eC, eF, aC, aN, eI, dIx, dGt, dLt, dLe, dGe, iOp, sAsg, f1, f2, dDivmod, gT, gTs, gIx, gN, sRet, sNx, sSet, sPut, dInt, dAdd, dSub, dMul, dMod, dDiv, dNeg, dLen, bOr, bAnd, bNot, eNot, eAnd, eOr, eCall, eCallP, yes, dLst, dTup]
      · rw [for_nx (ds := upTo 0 m.toNat) (e1 := [some p2, some (.int deep), some (.int w), some (.list []), none])]
        · exact e3
        · simp [aR1, sSeq, sIf, bV, eB, eU, eV, eC, eF, aC, aN, eI, dIx, dGt, dLt, dLe, dGe, iOp, sAsg, f1, f2, dDivmod, gT, gTs, gIx, gN, sRet, sNx, sSet, sPut, dInt, dAdd, dSub, dMul, dMod, dDiv, dNeg, dLen, bOr, bAnd, bNot, eNot, eAnd, eOr, eCall, eCallP, yes, dLst, dTup, e2, sm]
      · simp [sSeq, sIf, bV, eB, eU, eV, eC, eF, aC, aN, eI, dIx, dGt, dLt, dLe, dGe, iOp, sAsg, f1, f2, dDivmod, gT, gTs, gIx, gN, sRet, sNx, sSet, sPut, dInt, dAdd, dSub, dMul, dMod, dDiv, dNeg, dLen, bOr, bAnd, bNot, eNot, eAnd, eOr, eCall, eCallP, yes, dLst, dTup, dTuple]
theorem thing2_ok {n : Nat} {p : D} (h : PotOk n p) (hn : n + 26 < 1000000) : ∃ x p', d_thing2 [p, .int 2] = some (x, p') ∧ Th 6 5439 x ∧ PotOk (n + 26) p' := by
  have h0 : ∀ n p, PotOk n p → n + 2 < 1000000 → ∃ x p', d_thing0 [p, .int 0] = some (x, p') ∧ Th 4 603 x ∧ PotOk (n + 2) p' := fun n p q hn =>
    thing_ok (c := 0) (k := 3) (W := 200) (by omega) (fun z => absurd rfl z) (by omega) (by omega) q (by omega)
  have h1 : ∀ n p, PotOk n p → n + 8 < 1000000 → ∃ x p', d_thing1 [p, .int 1] = some (x, p') ∧ Th 5 1812 x ∧ PotOk (n + 8) p' := fun n p q hn =>
    thing_ok (c := 2) (k := 4) (W := 603) (by omega) (fun _ => h0) (by omega) (by omega) q (by omega)
  exact thing_ok (r := d_thing1) (c := 8) (k := 5) (W := 1812) (deep := 2) (by omega) (fun _ => h1) (by omega) (by omega) h (by omega)
/-! ### errors -/
/-- the error of the class with a number, made of a thing -/
def mkD (C : Nat → Addr) (n : Nat) (d : D) : D := if n < 17 then dX (C n) "given" d else if n = 17 then dX (C n) "index" d else if n = 18 then dX (C n) "spot" d else dX0 (C n)
def keptD (n : Nat) (d : D) : List D := if n < 19 then [d] else []
theorem cases23 {n : Nat} (h : n < 23) : n = 0 ∨ n = 1 ∨ n = 2 ∨ n = 3 ∨ n = 4 ∨ n = 5 ∨ n = 6 ∨ n = 7 ∨ n = 8 ∨ n = 9 ∨ n = 10 ∨ n = 11 ∨ n = 12 ∨ n = 13 ∨ n = 14 ∨ n = 15 ∨ n = 16 ∨ n = 17 ∨ n = 18 ∨ n = 19 ∨ n = 20 ∨ n = 21 ∨ n = 22 := by omega
variable {K : PySem.W.Frag} {C : Nat → Addr}
theorem made_ok {n : Nat} (h : n < 23) (d : D) (b : Bool) : d__law_made K C [.int (n : Int), d, .bool b] = some (mkD C n d, .none) := by
  rcases cases23 h with rfl | rfl | rfl | rfl | rfl | rfl | rfl | rfl | rfl | rfl | rfl | rfl | rfl | rfl | rfl | rfl | rfl | rfl | rfl | rfl | rfl | rfl | rfl <;> cases b <;> rfl
end Fw
set_option Elab.async false
set_option linter.all false
set_option maxRecDepth 100000
set_option maxHeartbeats 4000000
/-! P01b: errors asked. -/
namespace Fw
open PySem PySem.Spec L2 PySem.W
variable {K : PySem.W.Frag} {C : Nat → Addr}
theorem cs_has {n : Nat} (h : n < 24) : (cs C).contains (C n) = true := by
  simp only [cs, List.contains_eq_mem, List.mem_map, List.mem_range, decide_eq_true_eq]
  exact ⟨n, h, rfl⟩
theorem fld_ok {n : Nat} (h : n < 24) (f : Str) (d : D) : fldD (cs C) f (dX (C n) f d) = some d := by
  show (if f = f ∧ (cs C).contains (C n) = true then some d else none) = some d
  rw [if_pos ⟨rfl, cs_has h⟩]
theorem kept_ok {n : Nat} (h : n < 23) (d : D) : d__law_kept K C [.int (n : Int), mkD C n d] = some (.list (keptD n d), .none) := by
  have f := fun f d => fld_ok (C := C) (n := n) (show n < 24 by omega) f d
  have c17 : (decide ((n : Int) = 17)) = decide (n = 17) := by simp only [decide_eq_decide]; omega
  have c18 : (decide ((n : Int) = 18)) = decide (n = 18) := by simp only [decide_eq_decide]; omega
  have cl : (decide ((n : Int) < 17)) = decide (n < 17) := by simp only [decide_eq_decide]; omega
  have l1 : 1 ≤ 16777216 := by decide
  by_cases h1 : n < 17
  · have n17 : ¬ n = 17 := by omega
    have n18 : ¬ n = 18 := by omega
    have n19 : n < 19 := by omega
    simp only [d__law_kept, runD, b__law_kept, sSeq, sIf, bV, eB, eU, eV, eC, eF, aC, aN, eI, dIx, dGt, dLt, dLe, dGe, iOp, sAsg, f1, f2, dDivmod, gT, gTs, gIx, gN, sRet, sNx, sSet, sPut, dInt, dAdd, dSub, dMul, dMod, dDiv, dNeg, dLen, bOr, bAnd, bNot, eNot, eAnd, eOr, eCall, eCallP, yes, dLst, dTup, List.getElem?_cons_succ, List.getElem?_cons_zero, List.set_cons_succ, List.set_cons_zero, List.length_cons, List.length_nil, List.map_cons, List.map_nil, List.replicate, List.cons_append, List.nil_append, if_true, and_self, eAt, dEq_int, c17, c18, cl, h1, n17, n18, n19, decide_true, decide_false, mkD, keptD, f, l1, Nat.zero_add, Nat.reduceLeDiff]
  · by_cases n17 : n = 17
    · have n19 : n < 19 := by omega
      simp only [d__law_kept, runD, b__law_kept, sSeq, sIf, bV, eB, eU, eV, eC, eF, aC, aN, eI, dIx, dGt, dLt, dLe, dGe, iOp, sAsg, f1, f2, dDivmod, gT, gTs, gIx, gN, sRet, sNx, sSet, sPut, dInt, dAdd, dSub, dMul, dMod, dDiv, dNeg, dLen, bOr, bAnd, bNot, eNot, eAnd, eOr, eCall, eCallP, yes, dLst, dTup, List.getElem?_cons_succ, List.getElem?_cons_zero, List.set_cons_succ, List.set_cons_zero, List.length_cons, List.length_nil, List.map_cons, List.map_nil, List.replicate, List.cons_append, List.nil_append, if_true, and_self, eAt, dEq_int, c17, c18, cl, h1, n17, decide_true, decide_false, mkD, keptD, f, l1, n19, Nat.zero_add, Nat.reduceLeDiff]
      subst n17
      simp [f]
    · by_cases n18 : n = 18
      · subst n18
        simp only [d__law_kept, runD, b__law_kept, sSeq, sIf, bV, eB, eU, eV, eC, eF, aC, aN, eI, dIx, dGt, dLt, dLe, dGe, iOp, sAsg, f1, f2, dDivmod, gT, gTs, gIx, gN, sRet, sNx, sSet, sPut, dInt, dAdd, dSub, dMul, dMod, dDiv, dNeg, dLen, bOr, bAnd, bNot, eNot, eAnd, eOr, eCall, eCallP, yes, dLst, dTup, List.getElem?_cons_succ, List.getElem?_cons_zero, List.set_cons_succ, List.set_cons_zero, List.length_cons, List.length_nil, List.map_cons, List.map_nil, List.replicate, List.cons_append, List.nil_append, if_true, and_self, eAt, dEq_int, c17, c18, cl, h1, n17, decide_true, decide_false, mkD, keptD, l1, Nat.zero_add, Nat.reduceLeDiff]
        simp [f, dLst]
      · have n19 : ¬ n < 19 := by omega
        simp only [d__law_kept, runD, b__law_kept, sSeq, sIf, bV, eB, eU, eV, eC, eF, aC, aN, eI, dIx, dGt, dLt, dLe, dGe, iOp, sAsg, f1, f2, dDivmod, gT, gTs, gIx, gN, sRet, sNx, sSet, sPut, dInt, dAdd, dSub, dMul, dMod, dDiv, dNeg, dLen, bOr, bAnd, bNot, eNot, eAnd, eOr, eCall, eCallP, yes, dLst, dTup, List.getElem?_cons_succ, List.getElem?_cons_zero, List.set_cons_succ, List.set_cons_zero, List.length_cons, List.length_nil, List.map_cons, List.map_nil, List.replicate, List.cons_append, List.nil_append, if_true, and_self, eAt, dEq_int, c17, c18, cl, h1, n17, n18, n19, decide_true, decide_false, mkD, keptD, l1, Nat.zero_add, Nat.reduceLeDiff]
        rfl
theorem ty_ok {n : Nat} (h : n < 24) (d : D) : tyD (cs C) (mkD C n d) = some (.ref (C n)) := by
  have e1 : ∀ f : Str, tyD (cs C) (dX (C n) f d) = some (.ref (C n)) := fun f => by
    show (if (cs C).contains (C n) = true then some (Value.ref (C n)) else none) = _
    rw [if_pos (cs_has h)]
  have e2 : tyD (cs C) (dX0 (C n)) = some (.ref (C n)) := by
    show (if (cs C).contains (C n) = true then some (Value.ref (C n)) else none) = _
    rw [if_pos (cs_has h)]
  unfold mkD
  split
  · exact e1 _
  · split
    · exact e1 _
    · split
      · exact e1 _
      · exact e2
/-- what the written part tells of the classes -/
structure KitF (K : PySem.W.Frag) (C : Nat → Addr) : Prop where
  kit : ∀ i, i < 24 → ∀ j, j < 23 → PySem.W.kitOne K (.ref (C i)) (.ref (C j)) = some (i == j)
  top : ∀ i, i < 24 → PySem.W.kitOne K (.ref (C i)) (.ref (C 23)) = some true
  ve : ∀ i, i < 24 → PySem.W.kitOne K (.ref (C i)) (.type "ValueError") = some true
  ex : ∀ i, i < 24 → PySem.W.kitOne K (.ref (C i)) (.type "Exception") = some true
  any : ∀ i, i < 24 → PySem.W.kitAny K (.ref (C i)) [.type "ArithmeticError", .type "LookupError", .type "TypeError", .type "RuntimeError", .type "AttributeError"] = some false
theorem is_ok (F : KitF K C) {n : Nat} (h : n < 24) (d : D) {j : Nat} (hj : j < 23) : isOf K (cs C) (.ref (C j)) (mkD C n d) = some (n == j) := by
  unfold isOf
  rw [ty_ok h]
  exact F.kit n h j hj
def rowD (n : Nat) : List D := (List.range 23).map fun j => .bool (n == j)
theorem classes_ok (F : KitF K C) {n : Nat} (h : n < 24) (d : D) : d__law_of_classes K C [mkD C n d] = some (.list (rowD n), .none) := by
  have f := fun j hj => is_ok F h d (j := j) hj
  generalize mkD C n d = x at f
  refine runD_rt rfl (e' := [some x, some (.list ((rowD n).take 20))]) ?_
  show b__law_of_classes K C [some x, none] = _
  have g : ∀ j, j < 23 → ∀ y, eIs (isOf K (cs C) (.ref (C j))) (eV 0) [some x, y] = some (.bool (n == j), [some x, y]) := fun j hj y => by
    simp only [eIs, eV, List.getElem?_cons_zero, f j hj]
  have s1 : ∀ m, (∀ y, m [some x, y] = some (.list ((rowD n).take 3), [some x, y])) → sSet 1 m [some x, none] = some (.nx, [some x, some (.list ((rowD n).take 3))]) := fun m h => set_nx (h _)
  have lst : ∀ (a b c : Nat), a < 23 → b < 23 → c < 23 → ∀ y, eF dLst (aC (eIs (isOf K (cs C) (.ref (C a))) (eV 0)) (aC (eIs (isOf K (cs C) (.ref (C b))) (eV 0)) (aC (eIs (isOf K (cs C) (.ref (C c))) (eV 0)) aN))) [some x, y] = some (.list [.bool (n == a), .bool (n == b), .bool (n == c)], [some x, y]) := fun a b c ha hb hc y => by
    simp only [eF, aC, g a ha, g b hb, g c hc, aN, dLst, List.length_cons, List.length_nil]
    rfl
  have lst2 : ∀ (a b : Nat), a < 23 → b < 23 → ∀ y, eF dLst (aC (eIs (isOf K (cs C) (.ref (C a))) (eV 0)) (aC (eIs (isOf K (cs C) (.ref (C b))) (eV 0)) aN)) [some x, y] = some (.list [.bool (n == a), .bool (n == b)], [some x, y]) := fun a b ha hb y => by
    simp only [eF, aC, g a ha, g b hb, aN, dLst, List.length_cons, List.length_nil]
    rfl
  have cat : ∀ (xs ys : List D) m, m [some x, some (.list xs)] = some (.list ys, [some x, some (.list xs)]) → xs.length + ys.length ≤ 16777216 → eB dCat (eV 1) m [some x, some (.list xs)] = some (.list (xs ++ ys), [some x, some (.list xs)]) := fun xs ys m h hl => by
    simp only [eB, eV, List.getElem?_cons_succ, List.getElem?_cons_zero, h, dCat, hl, if_true]
  have st : ∀ (xs ys : List D) m, m [some x, some (.list xs)] = some (.list ys, [some x, some (.list xs)]) → xs.length + ys.length ≤ 16777216 → sSet 1 (eB dCat (eV 1) m) [some x, some (.list xs)] = some (.nx, [some x, some (.list (xs ++ ys))]) := fun xs ys m h hl => set_nx (cat xs ys m h hl)
  refine (seq_nx (s1 _ (lst 0 1 2 (by decide) (by decide) (by decide)))).trans ?_
  refine (seq_nx (st _ _ _ (lst 3 4 5 (by decide) (by decide) (by decide) _) (Nat.le_of_ble_eq_true rfl))).trans ?_
  refine (seq_nx (st _ _ _ (lst 6 7 8 (by decide) (by decide) (by decide) _) (Nat.le_of_ble_eq_true rfl))).trans ?_
  refine (seq_nx (st _ _ _ (lst 9 10 11 (by decide) (by decide) (by decide) _) (Nat.le_of_ble_eq_true rfl))).trans ?_
  refine (seq_nx (st _ _ _ (lst2 12 13 (by decide) (by decide) _) (Nat.le_of_ble_eq_true rfl))).trans ?_
  refine (seq_nx (st _ _ _ (lst 14 15 16 (by decide) (by decide) (by decide) _) (Nat.le_of_ble_eq_true rfl))).trans ?_
  refine (seq_nx (st _ _ _ (lst 17 18 19 (by decide) (by decide) (by decide) _) (Nat.le_of_ble_eq_true rfl))).trans ?_
  exact (ret_rt (cat _ _ _ (lst 20 21 22 (by decide) (by decide) (by decide) _) (Nat.le_of_ble_eq_true rfl))).trans (by rfl)
theorem is_of_ok (F : KitF K C) {n : Nat} (h : n < 23) (d : D) : d__law_is_of K C [.int (n : Int), mkD C n d] = some (.bool true, .none) := by
  have c := classes_ok F (show n < 24 by omega) d
  have f : isOf K (cs C) (.ref (C 23)) (mkD C n d) = some true := by unfold isOf; rw [ty_ok (by omega)]; exact F.top n (by omega)
  have v : isOf K (cs C) (.type "ValueError") (mkD C n d) = some true := by unfold isOf; rw [ty_ok (by omega)]; exact F.ve n (by omega)
  have x : isOf K (cs C) (.type "Exception") (mkD C n d) = some true := by unfold isOf; rw [ty_ok (by omega)]; exact F.ex n (by omega)
  have a : isAny K (cs C) [.type "ArithmeticError", .type "LookupError", .type "TypeError", .type "RuntimeError", .type "AttributeError"] (mkD C n d) = some false := by unfold isAny; rw [ty_ok (by omega)]; exact F.any n (by omega)
  generalize mkD C n d = y at *
  have m : eComp none [2] (aR1 (aC (eC (.int 23)) aN)) (gN 2) bYes (eB dEq (eV 2) (eV 0)) [some (.int (n : Int)), some y, none] = some (.list (rowD n), [some (.int (n : Int)), some y, none]) := by
    rcases cases23 h with rfl | rfl | rfl | rfl | rfl | rfl | rfl | rfl | rfl | rfl | rfl | rfl | rfl | rfl | rfl | rfl | rfl | rfl | rfl | rfl | rfl | rfl | rfl <;> kernel_rfl
  have q : dNe (.list (rowD n)) (.list (rowD n)) = some (.bool false) := by
    rcases cases23 h with rfl | rfl | rfl | rfl | rfl | rfl | rfl | rfl | rfl | rfl | rfl | rfl | rfl | rfl | rfl | rfl | rfl | rfl | rfl | rfl | rfl | rfl | rfl <;> kernel_rfl
  refine runD_rt rfl (e' := [some (.int (n : Int)), some y, none]) ?_
  show b__law_is_of K C [some (.int (n : Int)), some y, none] = _
  have e1 : eCall yes (d__law_of_classes K C) (aC (eV 1) aN) [some (.int (n : Int)), some y, none] = some (.list (rowD n), [some (.int (n : Int)), some y, none]) := by
    simp only [eCall, aC, eV, aN, List.getElem?_cons_succ, List.getElem?_cons_zero, c, yes, if_true]
  have e2 : ∀ g b, g y = some b → eIs g (eV 1) [some (.int (n : Int)), some y, none] = some (.bool b, [some (.int (n : Int)), some y, none]) := fun g b hg => by
    simp only [eIs, eV, List.getElem?_cons_succ, List.getElem?_cons_zero, hg]
  refine (seq_nx (e1 := [some (.int (n : Int)), some y, none]) ((if_f (e1 := [some (.int (n : Int)), some y, none]) ?_).trans rfl)).trans ((seq_nx (e1 := [some (.int (n : Int)), some y, none]) ((if_f (e1 := [some (.int (n : Int)), some y, none]) ?_).trans rfl)).trans (ret_rt ?_))
  · simp only [bOr, bV, eB, e1, m, q, bNot, e2 _ _ f, Bool.not_true]
  · simp only [bOr, bV, bNot, e2 _ _ v, e2 _ _ x, Bool.not_true]
  · simp only [eNot, e2 _ _ a]
    rfl
end Fw
set_option Elab.async false
set_option linter.all false
set_option maxRecDepth 100000
set_option maxHeartbeats 4000000
/-! P01c: the law. -/
namespace Fw
open PySem PySem.Spec L2 PySem.W
variable {K : PySem.W.Frag} {C : Nat → Addr}
theorem kept_repr {k W : Nat} {n : Nat} {d : D} (h : Th k W d) (hk : k ≤ 60) (hw : W ≤ 90000) : ∃ s, dRepr (.list (keptD n d)) = some (.str s) := by
  refine ⟨_, th_repr (k := k + 1) (W := 1 * (W + 1)) ((th_list (k := k) (W := W) (fun x hx => ?_)).mono (Nat.le_refl _) (Nat.mul_le_mul_right _ ?_)) rfl (by omega) (by omega)⟩
  · unfold keptD at hx
    split at hx
    · rw [List.mem_singleton.mp hx]; exact h
    · cases hx
  · unfold keptD
    split <;> simp
/-- one error looked at -/
theorem turn_ok (F : KitF K C) {n : Nat} (h : n < 23) {k W : Nat} {d : D} (th : Th k W d) (hk : k ≤ 60) (hw : W ≤ 90000) (e : Env) (h7 : e[7]? = some (some (.int (n : Int)))) (h8 : e[8]? = some (some (mkD C n d))) (h9 : e[9]? = some (some d)) :
    sSeq (sIf (bNot (bV (eCall yes (d__law_is_of K C) (aC (eV 7) (aC (eV 8) aN))))) (sRet (eC (.bool false))) sNx)
      (sIf (bV (eB dNe (eF (f1 dRepr) (aC (eCall yes (d__law_kept K C) (aC (eV 7) (aC (eV 8) aN))) aN)) (eF (f1 dRepr) (aC (eI (bV (eB dLt (eV 7) (eC (.int 19)))) (eF dLst (aC (eV 9) aN)) (eF dLst aN)) aN)))) (sRet (eC (.bool false))) sNx) e = some (.nx, e) := by
  obtain ⟨s, hs⟩ := kept_repr (n := n) th hk hw
  have e1 := is_of_ok F h d
  have e2 := kept_ok (K := K) (C := C) h d
  have cl : (decide ((n : Int) < 19)) = decide (n < 19) := by simp only [decide_eq_decide]; omega
  have e3 : eI (bV (eB dLt (eV 7) (eC (.int 19)))) (eF dLst (aC (eV 9) aN)) (eF dLst aN) e = some (.list (keptD n d), e) := by
    by_cases h19 : n < 19
    · simp only [eI, bV, eB, eV, eC, h7, h9, dLt, iOp, cl, h19, decide_true, eF, aC, aN, keptD, if_true]
      rfl
    · simp only [eI, bV, eB, eV, eC, h7, h9, dLt, iOp, cl, h19, decide_false, eF, aC, aN, keptD, if_false]
      rfl
  refine (seq_nx (e1 := e) ((if_f (e1 := e) ?_).trans rfl)).trans ((if_f (e1 := e) ?_).trans rfl)
  · simp only [bNot, bV, eCall, aC, eV, aN, h7, h8, e1, yes, if_true, Bool.not_true]
  · simp only [bV, eB, eF, aC, eCall, eV, aN, h7, h8, e2, yes, if_true, f1, hs, e3, dNe_str]
theorem are_right_ok (F : KitF K C) {n m : Nat} {p : D} (h : PotOk n p) (hm : m < 23) (hn : n + 79 < 1000000) :
    ∃ p', d__law_are_right K C [p, .int (m : Int)] = some (.bool true, p') ∧ PotOk (n + 79) p' := by
  obtain ⟨s, p1, e1, a1, a2, q1⟩ := draw_ok (few := 23) h (by omega) (by omega) (by decide +kernel)
  obtain ⟨s, rfl⟩ := Int.eq_ofNat_of_zero_le a1
  have hs : s < 23 := by omega
  obtain ⟨x, p2, e2, t2, q2⟩ := thing2_ok q1 (by omega)
  obtain ⟨y, p3, e3, t3, q3⟩ := thing2_ok q2 (by omega)
  obtain ⟨z, p4, e4, t4, q4⟩ := thing2_ok q3 (by omega)
  refine ⟨p4, ?_, q4.mono (by omega) (by omega)⟩
  let nums : List D := [.int (m : Int), .int (s : Int), .int (m : Int)]
  let errs : List D := [mkD C m x, mkD C s y, mkD C m z]
  let env (t : Option D) (a b : Option D) (c d e : Option D) (things : List D) (p : D) : Env := [some p, some (.int (m : Int)), t, a, b, some (.int (s : Int)), some (.list things), c, d, e]
  refine runP_rt rfl (e' := (env (some (.int 2)) (some (.list nums)) (some (.list errs)) (some (.int (m : Int))) (some (mkD C m z)) (some z) [x, y, z] p4).tail) ?_
  show b__law_are_right K C [some p, some (.int (m : Int)), none, none, none, none, none, none, none, none] = _
  have s1 : sPar 5 6 (eCallP 0 yes yes d__law_draw (aC (eC (.int 23)) aN)) (eF dLst aN) [some p, some (.int (m : Int)), none, none, none, none, none, none, none, none] = some (.nx, env none none none none none none [] p1) := by
    simp only [sPar, sSeq, sIf, bV, eB, eU, eV, eC, eF, aC, aN, eI, dIx, dGt, dLt, dLe, dGe, iOp, sAsg, f1, f2, dDivmod, gT, gTs, gIx, gN, sRet, sNx, sSet, sPut, dInt, dAdd, dSub, dMul, dMod, dDiv, dNeg, dLen, bOr, bAnd, bNot, eNot, eAnd, eOr, eCall, eCallP, yes, dLst, dTup, List.getElem?_cons_succ, List.getElem?_cons_zero, List.set_cons_succ, List.set_cons_zero, List.length_cons, List.length_nil, List.map_cons, List.map_nil, List.replicate, List.cons_append, List.nil_append, if_true, and_self, e1]
    rfl
  have up : ∀ (t : Option D) (things : List D) (p p' x : D), things.length < 16777216 → d_thing2 [p, .int 2] = some (x, p') → sUpd 6 (eCallP 0 yes yes d_thing2 (aC (eC (.int 2)) aN)) appD (env t none none none none none things p) = some (.nx, env t none none none none none (things ++ [x]) p') := fun t things p p' x hl e => by
    simp only [sUpd, appD, env, sSeq, sIf, bV, eB, eU, eV, eC, eF, aC, aN, eI, dIx, dGt, dLt, dLe, dGe, iOp, sAsg, f1, f2, dDivmod, gT, gTs, gIx, gN, sRet, sNx, sSet, sPut, dInt, dAdd, dSub, dMul, dMod, dDiv, dNeg, dLen, bOr, bAnd, bNot, eNot, eAnd, eOr, eCall, eCallP, yes, dLst, dTup, List.getElem?_cons_succ, List.getElem?_cons_zero, List.set_cons_succ, List.set_cons_zero, List.length_cons, List.length_nil, List.map_cons, List.map_nil, List.replicate, List.cons_append, List.nil_append, if_true, and_self, e, hl]
  have s2 : sFor (aR1 (aC (eC (.int 3)) aN)) (gN 2) (sUpd 6 (eCallP 0 yes yes d_thing2 (aC (eC (.int 2)) aN)) appD) (env none none none none none none [] p1) = some (.nx, env (some (.int 2)) none none none none none [x, y, z] p4) := by
    rw [for_nx (ds := [.int 0, .int 1, .int 2]) (e1 := env none none none none none none [] p1) rfl,
      forL_cons (e1 := env (some (.int 0)) none none none none none [] p1) rfl (up _ _ _ _ _ (by decide) e2),
      forL_cons (e1 := env (some (.int 1)) none none none none none [x] p2) rfl (up _ _ _ _ _ (by simp) e3),
      forL_cons (e1 := env (some (.int 2)) none none none none none [x, y] p3) rfl (up _ _ _ _ _ (by simp) e4)]
    rfl
  have s3 : sSet 3 (eF dLst (aC (eV 1) (aC (eV 5) (aC (eV 1) aN)))) (env (some (.int 2)) none none none none none [x, y, z] p4) = some (.nx, env (some (.int 2)) (some (.list nums)) none none none none [x, y, z] p4) := rfl
  have md := fun n h d b => made_ok (K := K) (C := C) (n := n) h d b
  have ix0' : dIx (.list [x, y, z]) (.int 0) = some x := rfl
  have ix1' : dIx (.list [x, y, z]) (.int 1) = some y := rfl
  have ix2' : dIx (.list [x, y, z]) (.int 2) = some z := rfl
  have s4 : sSet 4 (eF dLst (aC (eCall yes (d__law_made K C) (aC (eV 1) (aC (eB dIx (eV 6) (eC (.int 0))) (aC (eC (.bool false)) aN)))) (aC (eCall yes (d__law_made K C) (aC (eV 5) (aC (eB dIx (eV 6) (eC (.int 1))) (aC (eC (.bool true)) aN)))) (aC (eCall yes (d__law_made K C) (aC (eV 1) (aC (eB dIx (eV 6) (eC (.int 2))) (aC (eC (.bool true)) aN)))) aN)))) (env (some (.int 2)) (some (.list nums)) none none none none [x, y, z] p4) = some (.nx, env (some (.int 2)) (some (.list nums)) (some (.list errs)) none none none [x, y, z] p4) := by
    simp only [env, sSet, eF, aC, eCall, eV, eB, eC, aN, ix0', ix1', ix2', md _ hm, md _ hs, yes, List.getElem?_cons_succ, List.getElem?_cons_zero, if_true]
    rfl
  have s5 : sFor (aZ3 (aC (eV 3) (aC (eV 4) (aC (eV 6) aN)))) (gT [(gN 7), (gN 8), (gN 9)]) (sSeq (sIf (bNot (bV (eCall yes (d__law_is_of K C) (aC (eV 7) (aC (eV 8) aN))))) (sRet (eC (.bool false))) sNx)
      (sIf (bV (eB dNe (eF (f1 dRepr) (aC (eCall yes (d__law_kept K C) (aC (eV 7) (aC (eV 8) aN))) aN)) (eF (f1 dRepr) (aC (eI (bV (eB dLt (eV 7) (eC (.int 19)))) (eF dLst (aC (eV 9) aN)) (eF dLst aN)) aN)))) (sRet (eC (.bool false))) sNx))
      (env (some (.int 2)) (some (.list nums)) (some (.list errs)) none none none [x, y, z] p4) = some (.nx, env (some (.int 2)) (some (.list nums)) (some (.list errs)) (some (.int (m : Int))) (some (mkD C m z)) (some z) [x, y, z] p4) := by
    rw [for_nx (ds := zip3D nums errs [x, y, z]) (e1 := env (some (.int 2)) (some (.list nums)) (some (.list errs)) none none none [x, y, z] p4) rfl]
    show forL _ _ [.tuple [.int (m : Int), mkD C m x, x], .tuple [.int (s : Int), mkD C s y, y], .tuple [.int (m : Int), mkD C m z, z]] _ = _
    rw [forL_cons (e1 := env (some (.int 2)) (some (.list nums)) (some (.list errs)) (some (.int (m : Int))) (some (mkD C m x)) (some x) [x, y, z] p4) rfl (turn_ok F hm t2 (by omega) (by omega) _ rfl rfl rfl),
      forL_cons (e1 := env (some (.int 2)) (some (.list nums)) (some (.list errs)) (some (.int (s : Int))) (some (mkD C s y)) (some y) [x, y, z] p4) rfl (turn_ok F hs t3 (by omega) (by omega) _ rfl rfl rfl),
      forL_cons (e1 := env (some (.int 2)) (some (.list nums)) (some (.list errs)) (some (.int (m : Int))) (some (mkD C m z)) (some z) [x, y, z] p4) rfl (turn_ok F hm t4 (by omega) (by omega) _ rfl rfl rfl)]
    rfl
  exact (seq_nx s1).trans ((seq_nx s2).trans ((seq_nx s3).trans ((seq_nx s4).trans ((seq_nx s5).trans rfl))))
end Fw
set_option Elab.async false
set_option linter.all false
set_option maxRecDepth 100000
set_option maxHeartbeats 4000000
/-! P01d: the law holds. -/
namespace Fw
open PySem PySem.Spec L2 PySem.W
variable {K : PySem.W.Frag} {C : Nat → Addr}
def dueD (x : D) : List D := [.list [.str (Str.ofString "base"), .bool false, x], .list [.str (Str.ofString "text"), x], .list [.str (Str.ofString "base"), .bool true], .list [.str (Str.ofString "base"), .bool false, x]]
theorem th_word {s : String} (h : (PyData.leavesShort 40 (.str (Str.ofString s)) && decide (PyData.weight (.str (Str.ofString s)) ≤ 200)) = true) : Th 3 200 (.str (Str.ofString s)) := by
  simp only [Bool.and_eq_true, decide_eq_true_eq] at h
  exact ⟨rfl, rfl, by simp [PyData.depth], h.1, h.2⟩
theorem th_bool (b : Bool) : Th 3 200 (.bool b) := ⟨rfl, rfl, by simp [PyData.depth], rfl, by simp [PyData.weight]⟩
theorem due_repr {x : D} (h : Th 6 5439 x) : ∃ s, dRepr (.list (dueD x)) = some (.str s) := by
  have b : ∀ y : D, y = .str (Str.ofString "base") ∨ y = .str (Str.ofString "text") ∨ y = .bool false ∨ y = .bool true ∨ y = x → Th 6 5439 y := fun y hy => by
    rcases hy with rfl | rfl | rfl | rfl | rfl
    · exact (th_word (by decide +kernel)).mono (by omega) (by omega)
    · exact (th_word (by decide +kernel)).mono (by omega) (by omega)
    · exact (th_bool _).mono (by omega) (by omega)
    · exact (th_bool _).mono (by omega) (by omega)
    · exact h
  have row : ∀ y ∈ dueD x, Th 7 16320 y := fun y hy => by
    unfold dueD at hy
    simp only [List.mem_cons, List.not_mem_nil, or_false] at hy
    rcases hy with rfl | rfl | rfl | rfl
    · exact (th_list (k := 6) (W := 5439) fun z hz => b z (by simp only [List.mem_cons, List.not_mem_nil, or_false] at hz; rcases hz with rfl | rfl | rfl <;> simp)).mono (by omega) (by simp)
    · exact (th_list (k := 6) (W := 5439) fun z hz => b z (by simp only [List.mem_cons, List.not_mem_nil, or_false] at hz; rcases hz with rfl | rfl <;> simp)).mono (by omega) (by simp)
    · exact (th_list (k := 6) (W := 5439) fun z hz => b z (by simp only [List.mem_cons, List.not_mem_nil, or_false] at hz; rcases hz with rfl | rfl <;> simp)).mono (by omega) (by simp)
    · exact (th_list (k := 6) (W := 5439) fun z hz => b z (by simp only [List.mem_cons, List.not_mem_nil, or_false] at hz; rcases hz with rfl | rfl | rfl <;> simp)).mono (by omega) (by simp)
  exact ⟨_, th_repr (k := 8) (W := 4 * 16321) ((th_list row).mono (by omega) (by simp [dueD])) rfl (by omega) (by omega)⟩
theorem right_ok (F : KitF K C) {p : D} (h : PotOk 0 p) : ∃ p', d__law_right K C [p] = some (.bool true, p') := by
  obtain ⟨b, p1, e1, a1, a2, q1⟩ := draw_ok (few := 23) h (by omega) (by omega) (by decide +kernel)
  let body : SM := sIf (bNot (bV (eCallP 0 yes yes (d__law_are_right K C) (aC (eB dMod (eF (f1 dInt) (aC (eB dAdd (eV 1) (eV 2)) aN)) (eC (.int 23))) aN)))) (sRet (eC (.bool false))) sNx
  have loop : ∀ (m : Nat) (ts : List Int) (n : Nat) (p : D) (t : Option D), ts.length = m → (∀ t ∈ ts, 0 ≤ t) → PotOk n p → n + m * 79 + 79 < 1000000 →
      ∃ p' t', forL (gN 2) body (ts.map PyData.int) [some p, some (.int b), t, none, none, none, none] = some (.nx, [some p', some (.int b), t', none, none, none, none]) ∧ PotOk (n + m * 79) p' := by
    intro m
    induction m with
    | zero =>
      intro ts n p t hl _ q hn
      obtain rfl : ts = [] := List.length_eq_zero_iff.mp hl
      exact ⟨p, t, rfl, by simpa using q⟩
    | succ m ih =>
      intro ts n p t hl ht q hn
      obtain ⟨i, ts, rfl⟩ := List.exists_cons_of_length_eq_add_one hl
      have hi : 0 ≤ i := ht i List.mem_cons_self
      have hr1 : 0 ≤ (b + i) % 23 := Int.emod_nonneg _ (by omega)
      have hr2 : (b + i) % 23 < 23 := Int.emod_lt_of_pos _ (by omega)
      obtain ⟨r, hr⟩ := Int.eq_ofNat_of_zero_le hr1
      obtain ⟨p1, e1, q1⟩ := are_right_ok F (m := r) q (by omega) (by omega)
      obtain ⟨p2, t', e2, q2⟩ := ih ts (n + 79) p1 (some (.int i)) (by simpa using hl) (fun t h => ht t (List.mem_cons_of_mem _ h)) q1 (by omega)
      refine ⟨p2, t', ?_, q2.mono (by omega) (by omega)⟩
      rw [List.map_cons, forL_cons (e1 := [some p, some (.int b), some (.int i), none, none, none, none]) (e2 := [some p1, some (.int b), some (.int i), none, none, none, none]) rfl ?_]
      · exact e2
      · refine (if_f (e1 := [some p1, some (.int b), some (.int i), none, none, none, none]) ?_).trans rfl
        have e1' : d__law_are_right K C [p, .int ((b + i) % 23)] = some (.bool true, p1) := by rw [hr]; exact e1
        have hm : ∀ j : Int, dMod (.int j) (.int 23) = some (.int (j % 23)) := fun j => rfl
        have ha : dAdd (.int b) (.int i) = some (.int (b + i)) := rfl
        have hi' : ∀ j : Int, dInt (.int j) = some (.int j) := fun j => rfl
        simp only [bNot, bV, eCallP, aC, eB, eF, f1, eV, eC, aN, List.getElem?_cons_succ, List.getElem?_cons_zero, hm, ha, hi', e1', yes, and_self, if_true, List.set_cons_zero, Bool.not_true]
  obtain ⟨p2, t, e2, q2⟩ := loop 23 ((List.range 23).map fun (i : Nat) => (i : Int)) (0 + 1) p1 none (by simp) (fun t h => by obtain ⟨i, _, rfl⟩ := List.mem_map.mp h; omega) q1 (by omega)
  obtain ⟨x, p3, e3, th, q3⟩ := thing2_ok q2 (by omega)
  obtain ⟨s, hs⟩ := due_repr th
  refine ⟨p3, ?_⟩
  refine runP_rt rfl (e' := [some (.int b), t, some x, some (.list (dueD x)), some (dX0 (C 23)), none]) ?_
  show b__law_right K C [some p, none, none, none, none, none, none] = _
  have s1 : sSet 1 (eCallP 0 yes yes d__law_draw (aC (eC (.int 23)) aN)) [some p, none, none, none, none, none, none] = some (.nx, [some p1, some (.int b), none, none, none, none, none]) := by
    simp only [sSeq, sIf, bV, eB, eU, eV, eC, eF, aC, aN, eI, dIx, dGt, dLt, dLe, dGe, iOp, sAsg, f1, f2, dDivmod, gT, gTs, gIx, gN, sRet, sNx, sSet, sPut, dInt, dAdd, dSub, dMul, dMod, dDiv, dNeg, dLen, bOr, bAnd, bNot, eNot, eAnd, eOr, eCall, eCallP, yes, dLst, dTup, List.getElem?_cons_succ, List.getElem?_cons_zero, List.set_cons_succ, List.set_cons_zero, List.length_cons, List.length_nil, List.map_cons, List.map_nil, List.replicate, List.cons_append, List.nil_append, if_true, and_self, e1]
  have s2 : sFor (aR1 (aC (eC (.int 23)) aN)) (gN 2) body [some p1, some (.int b), none, none, none, none, none] = some (.nx, [some p2, some (.int b), t, none, none, none, none]) := by
    rw [for_nx (ds := ((List.range 23).map fun (i : Nat) => (i : Int)).map PyData.int) (e1 := [some p1, some (.int b), none, none, none, none, none]) (by rfl)]
    exact e2
  have s3 : sSet 3 (eCallP 0 yes yes d_thing2 (aC (eC (.int 2)) aN)) [some p2, some (.int b), t, none, none, none, none] = some (.nx, [some p3, some (.int b), t, some x, none, none, none]) := by
    simp only [sSeq, sIf, bV, eB, eU, eV, eC, eF, aC, aN, eI, dIx, dGt, dLt, dLe, dGe, iOp, sAsg, f1, f2, dDivmod, gT, gTs, gIx, gN, sRet, sNx, sSet, sPut, dInt, dAdd, dSub, dMul, dMod, dDiv, dNeg, dLen, bOr, bAnd, bNot, eNot, eAnd, eOr, eCall, eCallP, yes, dLst, dTup, List.getElem?_cons_succ, List.getElem?_cons_zero, List.set_cons_succ, List.set_cons_zero, List.length_cons, List.length_nil, List.map_cons, List.map_nil, List.replicate, List.cons_append, List.nil_append, if_true, and_self, e3]
  have s4 : ∀ m, m [some p3, some (.int b), t, some x, none, none, none] = some (.list (dueD x), [some p3, some (.int b), t, some x, none, none, none]) → sSet 4 m [some p3, some (.int b), t, some x, none, none, none] = some (.nx, [some p3, some (.int b), t, some x, some (.list (dueD x)), none, none]) := fun m h => set_nx h
  have cm : eComp (some 0) [6] (aR1 (aC (eC (.int 4)) aN)) (gN 6) bYes (eCall yes d__law_met (aC (eV 6) (aC (eV 3) aN))) [some p3, some (.int b), t, some x, some (.list (dueD x)), none, none] = some (.list (dueD x), [some p3, some (.int b), t, some x, some (.list (dueD x)), none, none]) := by rfl
  refine (seq_nx s1).trans ((seq_nx s2).trans ((seq_nx s3).trans ((seq_nx (s4 _ rfl)).trans ((seq_nx (e1 := [some p3, some (.int b), t, some x, some (.list (dueD x)), none, none]) ((if_f (e1 := [some p3, some (.int b), t, some x, some (.list (dueD x)), none, none]) ?_).trans rfl)).trans ((seq_nx (e1 := [some p3, some (.int b), t, some x, some (.list (dueD x)), some (dX0 (C 23)), none]) rfl).trans (ret_rt ?_))))))
  · simp only [bV, eB, eF, aC, cm, aN, f1, hs, eV, List.getElem?_cons_succ, List.getElem?_cons_zero, dNe_str]
  · have hm : mkD C 23 .none = dX0 (C 23) := rfl
    have v : isOf K (cs C) (.type "ValueError") (dX0 (C 23)) = some true := by rw [← hm]; unfold isOf; rw [ty_ok (by omega)]; exact F.ve 23 (by omega)
    have c := classes_ok F (show 23 < 24 by omega) .none
    rw [hm] at c
    have ni : dNotIn (.bool true) (.list (rowD 23)) = some (.bool true) := by kernel_rfl
    simp only [eAnd, eIs, eV, eB, eC, eCall, aC, aN, List.getElem?_cons_succ, List.getElem?_cons_zero, v, c, ni, yes, if_true]
theorem compL_same {vs : List Nat} {g : GM} {me : EM} {e : Env} {r : D} : ∀ {ds : List D}, (∀ d ∈ ds, ∃ e1, g d e = some e1 ∧ me e1 = some (r, e1) ∧ wipeE e1 vs = e) → compL vs g bYes me ds e = some (List.replicate ds.length r, e)
  | [], _ => rfl
  | d :: ds, h => by
    obtain ⟨e1, h1, h2, h3⟩ := h d List.mem_cons_self
    rw [compL]
    simp only [h1, bYes, h2, h3, compL_same (ds := ds) fun x hx => h x (List.mem_cons_of_mem _ hx), List.length_cons, List.replicate_succ]
theorem bools_rep : ∀ n : Nat, boolsD (List.replicate n (.bool true)) = some (List.replicate n true)
  | 0 => rfl
  | n + 1 => by rw [List.replicate_succ, boolsD, bools_rep n]; rfl
theorem law_ok (F : KitF K C) {ns : List Int} (hl : ns.length ≤ 63) : ∃ z, d_law K C [.list (ns.map PyData.int)] = some (.bool true, z) := by
  refine ⟨.none, runD_rt rfl (e' := [some (.list (ns.map PyData.int)), none]) (ret_rt ?_)⟩
  show eF (f1 dAll) (aC (eComp none [1] _ (gN 1) bYes _) aN) [some (.list (ns.map PyData.int)), none] = _
  obtain ⟨m, hm, hr⟩ : ∃ m : Nat, m ≤ 3 ∧ aR1 (aC (eF (f2 dMax2) (aC (eC (.int 2)) (aC (eF (f2 dMin2) (aC (eF (f1 dLen) (aC (eV 0) aN)) (aC (eC (.int 3)) aN))) aN))) aN) [some (.list (ns.map PyData.int)), none] = some (upTo 0 m, [some (.list (ns.map PyData.int)), none]) := by
    by_cases h3 : (3 : Int) < (ns.length : Int)
    · refine ⟨3, by omega, ?_⟩
      simp [aR1, eF, aC, eC, eV, aN, f1, f2, dLen, dMin2, dMax2, h3, small]
    · by_cases h2 : (ns.length : Int) > 2
      · refine ⟨ns.length, by omega, ?_⟩
        have hs : small (ns.length : Int) = true := by unfold small; simp; omega
        simp [aR1, eF, aC, eC, eV, aN, f1, f2, dLen, dMin2, dMax2, h3, h2, hs]
      · refine ⟨2, by omega, ?_⟩
        simp [aR1, eF, aC, eC, eV, aN, f1, f2, dLen, dMin2, dMax2, h3, h2, small]
  have c : compL [1] (gN 1) bYes (eCallN noL (d__law_right K C) (eCall yes d__law_pot (aC (eV 0) (aC (eV 1) aN)))) (upTo 0 m) [some (.list (ns.map PyData.int)), none] = some (List.replicate (upTo 0 m).length (.bool true), [some (.list (ns.map PyData.int)), none]) := by
    refine compL_same fun d hd => ?_
    obtain ⟨i, hi, rfl⟩ := List.mem_map.mp hd
    have hi := List.mem_range.mp hi
    refine ⟨[some (.list (ns.map PyData.int)), some (.int (0 + (i : Int)))], rfl, ?_, rfl⟩
    obtain ⟨p, z, e1, q⟩ := pot_ok (ns := ns) (t := i) (by omega) hl
    obtain ⟨p', e2⟩ := right_ok F q
    rw [Int.zero_add]
    simp only [eCallN, eCall, aC, eV, aN, List.getElem?_cons_succ, List.getElem?_cons_zero, e1, e2, yes, if_true, noL]
  have l : (upTo 0 m).length = m := by simp [upTo]
  have l2 : m ≤ 16777216 := by omega
  simp only [eF, aC, eComp, hr, wipeE, List.set_cons_succ, List.set_cons_zero]
  rw [c]
  simp only [List.length_replicate, l, l2, if_true, putPot, aN, f1, dAll, bools_rep, Option.map_some]
  simp
end Fw
set_option Elab.async false
set_option linter.all false
set_option maxRecDepth 100000
set_option maxHeartbeats 8000000
/-! The head: facts, chain. -/
namespace Fw
open PySem PySem.Spec PyProof.Rows L2
abbrev L0 : PySem.W.OpenLaw := PySem.Challenge.rw_weylweights_k01_errors_each_of_its_own
abbrev R0 : PySem.W.OpenRow := PySem.W.OpenLaw.row L0
def nmC : List Str := ["InvalidMatrix", "InvalidType", "InvalidVector", "InvalidRoot", "InvalidNode", "InvalidNodes", "InvalidWeight", "InvalidWord", "InvalidSum", "InvalidTable", "InvalidCount", "InvalidPath", "InvalidExpression", "InvalidDeed", "InvalidBook", "NotAlike", "TooMany", "InvalidLines", "BadText", "NotFinite", "NothingToUndo", "NothingToRedo", "NoPicture", "WeylError"]
def C0 (K : PySem.W.Frag) (i : Nat) : Addr := He.ga K (nmC.getD i "")
def frees0 : List Str := ["ArithmeticError", "AttributeError", "Exception", "LookupError", "RuntimeError", "TypeError", "ValueError", "abs", "all", "divmod", "int", "isinstance", "len", "max", "min", "range", "repr", "tuple", "zip"]

def fn0 : List He.DefD := [dfn "_law_pot" (topS 26), dfn "_law_draw" (topS 27), dfn "_law_pick" (topS 28), dfn "_law_odd" (topS 29), dfn "_law_thing" (topS 30), dfn "_law_of_given" (topS 31), dfn "_law_by_given" (topS 32), dfn "_law_made" (topS 33), dfn "_law_kept" (topS 34), dfn "_law_of_classes" (topS 35), dfn "_law_is_of" (topS 36), dfn "_law_are_right" (topS 37), dfn "_law_met" (topS 38), dfn "_law_right" (topS 39), dfn "law" (topS 40)]
def dn0 : List Str := ["_law_pot", "_law_draw", "_law_pick", "_law_odd", "_law_thing", "_law_of_given", "_law_by_given", "_law_made", "_law_kept", "_law_of_classes", "_law_is_of", "_law_are_right", "_law_met", "_law_right", "law"]
def in0 : List He.DefD := [dmt "InvalidMatrix" "__init__" "InvalidMatrix.__init__" (L2.inClass (topS 2) 0), dmt "InvalidType" "__init__" "InvalidType.__init__" (L2.inClass (topS 3) 0), dmt "InvalidVector" "__init__" "InvalidVector.__init__" (L2.inClass (topS 4) 0), dmt "InvalidRoot" "__init__" "InvalidRoot.__init__" (L2.inClass (topS 5) 0), dmt "InvalidNode" "__init__" "InvalidNode.__init__" (L2.inClass (topS 6) 0), dmt "InvalidNodes" "__init__" "InvalidNodes.__init__" (L2.inClass (topS 7) 0), dmt "InvalidWeight" "__init__" "InvalidWeight.__init__" (L2.inClass (topS 8) 0), dmt "InvalidWord" "__init__" "InvalidWord.__init__" (L2.inClass (topS 9) 0), dmt "InvalidSum" "__init__" "InvalidSum.__init__" (L2.inClass (topS 10) 0), dmt "InvalidTable" "__init__" "InvalidTable.__init__" (L2.inClass (topS 11) 0), dmt "InvalidCount" "__init__" "InvalidCount.__init__" (L2.inClass (topS 12) 0), dmt "InvalidPath" "__init__" "InvalidPath.__init__" (L2.inClass (topS 13) 0), dmt "InvalidExpression" "__init__" "InvalidExpression.__init__" (L2.inClass (topS 14) 0), dmt "InvalidDeed" "__init__" "InvalidDeed.__init__" (L2.inClass (topS 15) 0), dmt "InvalidBook" "__init__" "InvalidBook.__init__" (L2.inClass (topS 16) 0), dmt "NotAlike" "__init__" "NotAlike.__init__" (L2.inClass (topS 17) 0), dmt "TooMany" "__init__" "TooMany.__init__" (L2.inClass (topS 18) 0), dmt "InvalidLines" "__init__" "InvalidLines.__init__" (L2.inClass (topS 19) 0), dmt "BadText" "__init__" "BadText.__init__" (L2.inClass (topS 20) 0)]
def wI : List Nat := [0, 1, 2, 3, 4, 5, 6, 7, 8, 9, 10, 11, 12, 13, 14, 15, 16, 17, 18]
def nI : List Nat := [19, 20, 21, 22, 23]
def fldC : List Str := ["given", "given", "given", "given", "given", "given", "given", "given", "given", "given", "given", "given", "given", "given", "given", "given", "given", "index", "spot", "", "", "", "", ""]
/-- what this law asks besides -/
def exLaw (K : PySem.W.Frag) : Bool :=
  ((List.range 24).all fun i => (List.range 24).all fun j => decide (PySem.W.kitOne K (.ref (C0 K i)) (.ref (C0 K j)) = some (i == j || j == 23)))
  && ((List.range 24).all (fun i => decide (PySem.W.kitOne K (.ref (C0 K i)) (.type "ValueError") = some true) && (decide (PySem.W.kitOne K (.ref (C0 K i)) (.type "Exception") = some true)
    && decide (PySem.W.kitAny K (.ref (C0 K i)) [.type "ArithmeticError", .type "LookupError", .type "TypeError", .type "RuntimeError", .type "AttributeError"] = some false)))
  && ([4, 16, 18, 19].all fun i => [5, 18, 22, 23].all fun j => decide (PySem.W.exmOne K (.ref (C0 K i)) (.ref (C0 K j)) = some (i == j || j == 23))))
def ex0 (K : PySem.W.Frag) : Bool :=
  noLst K && ((List.range 24).all (fun i => exB K (C0 K i) && He.eqO (PySem.W.nsIn K mainGlobals (nmC.getD i "")) (some (some (.ref (C0 K i)))))
  && (wI.all (fun i => oxB K (C0 K i) && inB K (C0 K i))
  && (nI.all (fun i => PySem.W.excIn K (C0 K i) He.veBase "ValueError.__new__")
  && ((List.range 24).all (fun i => [("given" : Str), ("index" : Str), ("spot" : Str)].all fun f => He.eqO (PySem.W.findIn K (.ref (C0 K i)) f) (some none))
  && (frees0.all (fun x => He.eqO (PySem.W.nsIn K mainGlobals x) (some none))
  && (dn0.all (fun x => He.eqO (PySem.W.nsIn K mainGlobals x) (some (some (.ref (He.ga K x)))))
  && exLaw K))))))

/-! ### facts -/
structure Facts (K : PySem.W.Frag) (mg : Str → Option Value) : Prop where
  gc : ∀ i, i < 24 → mg (nmC.getD i "") = some (.ref (C0 K i))
  free : ∀ x, x ∈ frees0 → mg x = none
  ec : ∀ i, i < 24 → exB K (C0 K i) = true
  hcs : ∀ D ∈ cs (C0 K), ExcC K D
  fld : ∀ f, f ∈ [("given" : Str), "index", "spot"] → ∀ D ∈ cs (C0 K), FldK K D f
  mk0 : ∀ i, i ∈ nI → ∀ c : Ctx, c.K = K → c.mg = mg → Mk0 c (nmC.getD i "") (C0 K i)
  gl : ∀ x, x ∈ dn0 → mg x = some (.ref (He.ga K x))
  law : exLaw K = true
theorem free_of {K : PySem.W.Frag} {h : Heap} {mg : Str → Option Value} (X : K.In h) (G : h.Ns mainGlobals mg) {x : Str} (e : He.eqO (PySem.W.nsIn K mainGlobals x) (some none) = true) : mg x = none := PySem.W.mg_none_of X G (He.eqO_ok e)
theorem facts_of {K : PySem.W.Frag} {h : Heap} {mg : Str → Option Value} (X : K.In h) (G : h.Ns mainGlobals mg) (e : ex0 K = true) : noLst K = true ∧ Facts K mg ∧ (∀ i, i ∈ wI → oxB K (C0 K i) = true ∧ inB K (C0 K i) = true) ∧ ∀ i, i < 24 → ∀ f, f ∈ [("given" : Str), "index", "spot"] → PySem.W.findIn K (.ref (C0 K i)) f = some none := by
  obtain ⟨h1, e⟩ := He.ba e
  obtain ⟨h2, e⟩ := He.ba e
  obtain ⟨h3, e⟩ := He.ba e
  obtain ⟨h4, e⟩ := He.ba e
  obtain ⟨h5, e⟩ := He.ba e
  obtain ⟨h6, e⟩ := He.ba e
  obtain ⟨h8, h7⟩ := He.ba e
  have m : ∀ i, i < 24 → i ∈ List.range 24 := fun i h => List.mem_range.mpr h
  have ec : ∀ i, i < 24 → exB K (C0 K i) = true ∧ He.eqO (PySem.W.nsIn K mainGlobals (nmC.getD i "")) (some (some (.ref (C0 K i)))) = true := fun i h => He.ba (List.all_eq_true.mp h2 i (m i h))
  have gc : ∀ i, i < 24 → mg (nmC.getD i "") = some (.ref (C0 K i)) := fun i h => PySem.W.mg_of X G (He.eqO_ok (ec i h).2)
  have fl : ∀ i, i < 24 → ∀ f, f ∈ [("given" : Str), "index", "spot"] → PySem.W.findIn K (.ref (C0 K i)) f = some none := fun i h f hf => He.eqO_ok (List.all_eq_true.mp (List.all_eq_true.mp h5 i (m i h)) f hf)
  have mem : ∀ D ∈ cs (C0 K), ∃ i, i < 24 ∧ C0 K i = D := fun D h => by
    obtain ⟨i, hi, e⟩ := List.mem_map.mp h
    exact ⟨i, List.mem_range.mp hi, e⟩
  refine ⟨h1, ⟨gc, fun x hx => free_of X G (List.all_eq_true.mp h6 x hx), fun i h => (ec i h).1, fun D hD => ?_, fun f hf D hD => ?_, fun i hi c e1 e2 => ?_, fun x hx => PySem.W.mg_of X G (He.eqO_ok (List.all_eq_true.mp h8 x hx)), h7⟩, fun i hi => He.ba (List.all_eq_true.mp h3 i hi), fl⟩
  · obtain ⟨i, hi, rfl⟩ := mem D hD
    exact (exB_ok (ec i hi).1).1
  · obtain ⟨i, hi, rfl⟩ := mem D hD
    exact fld_of (exB_ok (ec i hi).1).1 (fl i hi f hf)
  · have hi24 : i < 24 := by
      have : ∀ i ∈ nI, i < 24 := by decide
      exact this i hi
    subst e1 e2
    exact ⟨He.veBase, List.all_eq_true.mp h4 i hi, PySem.F.excBase_ValueError, (exB_ok (ec i hi24).1).2.2, gc i hi24⟩
end Fw
set_option Elab.async false
set_option linter.all false
set_option maxRecDepth 100000
set_option maxHeartbeats 0
namespace Fw
open PySem PySem.Spec PyProof.Rows L2
abbrev hk0 : PySem.W.Hook := hookE 6 ex0 (fn0 ++ in0)
def ob0 (s : PySem.W.SharedT) : AlE := obsEG 6 ex0 (fn0 ++ in0) (HandSHeadRun.getT s)
theorem ob0_eq (s : PySem.W.SharedT) : ob0 s = hk0.obs s.abs := obsEG_eq (HandSHeadRun.getT_eq s)
def view0 : Program := PySem.W.view R0.prog [40]
theorem run0 (w : World) : HandSHeadRun.RunEq R0 view0 hk0 ob0 20000 (nmC ++ fn0.map (·.name)).dropLast w := by
  intro os
  kernel_rfl
end Fw
set_option Elab.async false
set_option linter.all false
set_option maxRecDepth 100000
set_option maxHeartbeats 8000000
namespace Fw
open PySem PySem.Spec PyProof.Rows L2
theorem init_0 : InitS "given" (L2.inClass (topS 2) 0) := ⟨⟨rfl, rfl, rfl, by decide +kernel, rfl, by decide +kernel, by decide +kernel⟩, ⟨_, _, _, _, rfl, fun _ => rfl⟩, rfl, rfl, by decide, by decide, fun _ _ _ _ _ _ _ _ _ => rfl, fun _ _ _ _ _ _ _ _ _ => rfl⟩
theorem init_1 : InitS "given" (L2.inClass (topS 3) 0) := ⟨⟨rfl, rfl, rfl, by decide +kernel, rfl, by decide +kernel, by decide +kernel⟩, ⟨_, _, _, _, rfl, fun _ => rfl⟩, rfl, rfl, by decide, by decide, fun _ _ _ _ _ _ _ _ _ => rfl, fun _ _ _ _ _ _ _ _ _ => rfl⟩
theorem init_2 : InitS "given" (L2.inClass (topS 4) 0) := ⟨⟨rfl, rfl, rfl, by decide +kernel, rfl, by decide +kernel, by decide +kernel⟩, ⟨_, _, _, _, rfl, fun _ => rfl⟩, rfl, rfl, by decide, by decide, fun _ _ _ _ _ _ _ _ _ => rfl, fun _ _ _ _ _ _ _ _ _ => rfl⟩
theorem init_3 : InitS "given" (L2.inClass (topS 5) 0) := ⟨⟨rfl, rfl, rfl, by decide +kernel, rfl, by decide +kernel, by decide +kernel⟩, ⟨_, _, _, _, rfl, fun _ => rfl⟩, rfl, rfl, by decide, by decide, fun _ _ _ _ _ _ _ _ _ => rfl, fun _ _ _ _ _ _ _ _ _ => rfl⟩
theorem init_4 : InitS "given" (L2.inClass (topS 6) 0) := ⟨⟨rfl, rfl, rfl, by decide +kernel, rfl, by decide +kernel, by decide +kernel⟩, ⟨_, _, _, _, rfl, fun _ => rfl⟩, rfl, rfl, by decide, by decide, fun _ _ _ _ _ _ _ _ _ => rfl, fun _ _ _ _ _ _ _ _ _ => rfl⟩
theorem init_5 : InitS "given" (L2.inClass (topS 7) 0) := ⟨⟨rfl, rfl, rfl, by decide +kernel, rfl, by decide +kernel, by decide +kernel⟩, ⟨_, _, _, _, rfl, fun _ => rfl⟩, rfl, rfl, by decide, by decide, fun _ _ _ _ _ _ _ _ _ => rfl, fun _ _ _ _ _ _ _ _ _ => rfl⟩
theorem init_6 : InitS "given" (L2.inClass (topS 8) 0) := ⟨⟨rfl, rfl, rfl, by decide +kernel, rfl, by decide +kernel, by decide +kernel⟩, ⟨_, _, _, _, rfl, fun _ => rfl⟩, rfl, rfl, by decide, by decide, fun _ _ _ _ _ _ _ _ _ => rfl, fun _ _ _ _ _ _ _ _ _ => rfl⟩
theorem init_7 : InitS "given" (L2.inClass (topS 9) 0) := ⟨⟨rfl, rfl, rfl, by decide +kernel, rfl, by decide +kernel, by decide +kernel⟩, ⟨_, _, _, _, rfl, fun _ => rfl⟩, rfl, rfl, by decide, by decide, fun _ _ _ _ _ _ _ _ _ => rfl, fun _ _ _ _ _ _ _ _ _ => rfl⟩
theorem init_8 : InitS "given" (L2.inClass (topS 10) 0) := ⟨⟨rfl, rfl, rfl, by decide +kernel, rfl, by decide +kernel, by decide +kernel⟩, ⟨_, _, _, _, rfl, fun _ => rfl⟩, rfl, rfl, by decide, by decide, fun _ _ _ _ _ _ _ _ _ => rfl, fun _ _ _ _ _ _ _ _ _ => rfl⟩
theorem init_9 : InitS "given" (L2.inClass (topS 11) 0) := ⟨⟨rfl, rfl, rfl, by decide +kernel, rfl, by decide +kernel, by decide +kernel⟩, ⟨_, _, _, _, rfl, fun _ => rfl⟩, rfl, rfl, by decide, by decide, fun _ _ _ _ _ _ _ _ _ => rfl, fun _ _ _ _ _ _ _ _ _ => rfl⟩
theorem init_10 : InitS "given" (L2.inClass (topS 12) 0) := ⟨⟨rfl, rfl, rfl, by decide +kernel, rfl, by decide +kernel, by decide +kernel⟩, ⟨_, _, _, _, rfl, fun _ => rfl⟩, rfl, rfl, by decide, by decide, fun _ _ _ _ _ _ _ _ _ => rfl, fun _ _ _ _ _ _ _ _ _ => rfl⟩
theorem init_11 : InitS "given" (L2.inClass (topS 13) 0) := ⟨⟨rfl, rfl, rfl, by decide +kernel, rfl, by decide +kernel, by decide +kernel⟩, ⟨_, _, _, _, rfl, fun _ => rfl⟩, rfl, rfl, by decide, by decide, fun _ _ _ _ _ _ _ _ _ => rfl, fun _ _ _ _ _ _ _ _ _ => rfl⟩
theorem init_12 : InitS "given" (L2.inClass (topS 14) 0) := ⟨⟨rfl, rfl, rfl, by decide +kernel, rfl, by decide +kernel, by decide +kernel⟩, ⟨_, _, _, _, rfl, fun _ => rfl⟩, rfl, rfl, by decide, by decide, fun _ _ _ _ _ _ _ _ _ => rfl, fun _ _ _ _ _ _ _ _ _ => rfl⟩
theorem init_13 : InitS "given" (L2.inClass (topS 15) 0) := ⟨⟨rfl, rfl, rfl, by decide +kernel, rfl, by decide +kernel, by decide +kernel⟩, ⟨_, _, _, _, rfl, fun _ => rfl⟩, rfl, rfl, by decide, by decide, fun _ _ _ _ _ _ _ _ _ => rfl, fun _ _ _ _ _ _ _ _ _ => rfl⟩
theorem init_14 : InitS "given" (L2.inClass (topS 16) 0) := ⟨⟨rfl, rfl, rfl, by decide +kernel, rfl, by decide +kernel, by decide +kernel⟩, ⟨_, _, _, _, rfl, fun _ => rfl⟩, rfl, rfl, by decide, by decide, fun _ _ _ _ _ _ _ _ _ => rfl, fun _ _ _ _ _ _ _ _ _ => rfl⟩
theorem init_15 : InitS "given" (L2.inClass (topS 17) 0) := ⟨⟨rfl, rfl, rfl, by decide +kernel, rfl, by decide +kernel, by decide +kernel⟩, ⟨_, _, _, _, rfl, fun _ => rfl⟩, rfl, rfl, by decide, by decide, fun _ _ _ _ _ _ _ _ _ => rfl, fun _ _ _ _ _ _ _ _ _ => rfl⟩
theorem init_16 : InitS "given" (L2.inClass (topS 18) 0) := ⟨⟨rfl, rfl, rfl, by decide +kernel, rfl, by decide +kernel, by decide +kernel⟩, ⟨_, _, _, _, rfl, fun _ => rfl⟩, rfl, rfl, by decide, by decide, fun _ _ _ _ _ _ _ _ _ => rfl, fun _ _ _ _ _ _ _ _ _ => rfl⟩
theorem init_17 : InitS "index" (L2.inClass (topS 19) 0) := ⟨⟨rfl, rfl, rfl, by decide +kernel, rfl, by decide +kernel, by decide +kernel⟩, ⟨_, _, _, _, rfl, fun _ => rfl⟩, rfl, rfl, by decide, by decide, fun _ _ _ _ _ _ _ _ _ => rfl, fun _ _ _ _ _ _ _ _ _ => rfl⟩
theorem init_18 : InitS "spot" (L2.inClass (topS 20) 0) := ⟨⟨rfl, rfl, rfl, by decide +kernel, rfl, by decide +kernel, by decide +kernel⟩, ⟨_, _, _, _, rfl, fun _ => rfl⟩, rfl, rfl, by decide, by decide, fun _ _ _ _ _ _ _ _ _ => rfl, fun _ _ _ _ _ _ _ _ _ => rfl⟩
structure Zt (K : PySem.W.Frag) : Prop where
  F : KitF K (C0 K)
  exm : ∀ i ∈ [4, 16, 18, 19], ∀ j ∈ [5, 18, 22, 23], PySem.W.exmOne K (.ref (C0 K i)) (.ref (C0 K j)) = some (i == j || j == 23)
  kit19 : ∀ i ∈ [4, 16, 19], PySem.W.kitOne K (.ref (C0 K i)) (.ref (C0 K 19)) = some (i == 19)
theorem zt_of {K : PySem.W.Frag} (h : exLaw K = true) : Zt K := by
  unfold exLaw at h
  simp only [Bool.and_eq_true] at h
  obtain ⟨h1, h2, h3⟩ := h
  have m : ∀ i, i < 24 → i ∈ List.range 24 := fun i h => List.mem_range.mpr h
  have k : ∀ i, i < 24 → ∀ j, j < 24 → PySem.W.kitOne K (.ref (C0 K i)) (.ref (C0 K j)) = some (i == j || j == 23) := fun i hi j hj => of_decide_eq_true (List.all_eq_true.mp (List.all_eq_true.mp h1 i (m i hi)) j (m j hj))
  have k2 : ∀ i, i < 24 → ∀ j, j < 23 → PySem.W.kitOne K (.ref (C0 K i)) (.ref (C0 K j)) = some (i == j) := fun i hi j hj => by
    rw [k i hi j (by omega)]
    have : (j == 23) = false := by simp; omega
    rw [this, Bool.or_false]
  refine ⟨⟨k2, fun i hi => by rw [k i hi 23 (by omega)]; simp, fun i hi => ?_, fun i hi => ?_, fun i hi => ?_⟩, fun i hi j hj => of_decide_eq_true (List.all_eq_true.mp (List.all_eq_true.mp h3 i hi) j hj), fun i hi => k2 i ?_ 19 (by omega)⟩
  · exact of_decide_eq_true (He.ba (List.all_eq_true.mp h2 i (m i hi))).1
  · exact of_decide_eq_true (He.ba (He.ba (List.all_eq_true.mp h2 i (m i hi))).2).1
  · exact of_decide_eq_true (He.ba (He.ba (List.all_eq_true.mp h2 i (m i hi))).2).2
  · simp at hi; omega
theorem chain0 {P : Program} {w : World} {K : PySem.W.Frag} {h : Heap} {mg : Str → Option Value} (X : K.In h) (G : h.Ns mainGlobals mg) (c : SaysE ex0 (fn0 ++ in0) K) :
    ∃ fd : FuncData, (∀ (s : Shared) (u : Value), BindsTo s fd ⟨[u], []⟩ [("script", u)]) ∧ mg "law" = some (.ref (He.ga K "law")) ∧ noLst K = true ∧ (∀ ns : List Int, ns.length ≤ 63 → ∃ z, d_law K (C0 K) [.list (ns.map PyData.int)] = some (.bool true, z)) ∧
      ∀ base : Heap, K.In base → base.Ns mainGlobals mg → FnG P w K mg base CX0 9 (He.ga K "law") fd ["script"] (spD 1 false (d_law K (C0 K))) := by
  obtain ⟨nl, A, O, fl⟩ := facts_of X G c.isx
  have gl := A.gl
  have Z := zt_of A.law
  obtain ⟨fd__law_pot, F__law_pot⟩ := c.fnc (x := "_law_pot") (st := topS 26) (List.mem_of_getElem? (i := 0) rfl)
  obtain ⟨fd__law_draw, F__law_draw⟩ := c.fnc (x := "_law_draw") (st := topS 27) (List.mem_of_getElem? (i := 1) rfl)
  obtain ⟨fd__law_pick, F__law_pick⟩ := c.fnc (x := "_law_pick") (st := topS 28) (List.mem_of_getElem? (i := 2) rfl)
  obtain ⟨fd__law_odd, F__law_odd⟩ := c.fnc (x := "_law_odd") (st := topS 29) (List.mem_of_getElem? (i := 3) rfl)
  obtain ⟨fd__law_thing, F__law_thing⟩ := c.fnc (x := "_law_thing") (st := topS 30) (List.mem_of_getElem? (i := 4) rfl)
  obtain ⟨fd__law_of_given, F__law_of_given⟩ := c.fnc (x := "_law_of_given") (st := topS 31) (List.mem_of_getElem? (i := 5) rfl)
  obtain ⟨fd__law_by_given, F__law_by_given⟩ := c.fnc (x := "_law_by_given") (st := topS 32) (List.mem_of_getElem? (i := 6) rfl)
  obtain ⟨fd__law_made, F__law_made⟩ := c.fnc (x := "_law_made") (st := topS 33) (List.mem_of_getElem? (i := 7) rfl)
  obtain ⟨fd__law_kept, F__law_kept⟩ := c.fnc (x := "_law_kept") (st := topS 34) (List.mem_of_getElem? (i := 8) rfl)
  obtain ⟨fd__law_of_classes, F__law_of_classes⟩ := c.fnc (x := "_law_of_classes") (st := topS 35) (List.mem_of_getElem? (i := 9) rfl)
  obtain ⟨fd__law_is_of, F__law_is_of⟩ := c.fnc (x := "_law_is_of") (st := topS 36) (List.mem_of_getElem? (i := 10) rfl)
  obtain ⟨fd__law_are_right, F__law_are_right⟩ := c.fnc (x := "_law_are_right") (st := topS 37) (List.mem_of_getElem? (i := 11) rfl)
  obtain ⟨fd__law_met, F__law_met⟩ := c.fnc (x := "_law_met") (st := topS 38) (List.mem_of_getElem? (i := 12) rfl)
  obtain ⟨fd__law_right, F__law_right⟩ := c.fnc (x := "_law_right") (st := topS 39) (List.mem_of_getElem? (i := 13) rfl)
  obtain ⟨fd_law, F_law⟩ := c.fnc (x := "law") (st := topS 40) (List.mem_of_getElem? (i := 14) rfl)
  refine ⟨fd_law, fun s u => ?_, gl "law" (by decide), nl, fun ns hl => law_ok Z.F hl, fun base _ _ => ?_⟩
  · obtain ⟨oc, od, kV, doc, pm, an, cdv, ct, osl, rfl, lk, hcd⟩ := F_law.ex
    exact .of_eq rfl
  obtain ⟨fI_0, FI_0⟩ := c.mt (x := "InvalidMatrix") (m := "__init__") (q := "InvalidMatrix.__init__") (st := L2.inClass (topS 2) 0) (List.mem_of_getElem? (i := 15) rfl)
  have mkE_0 : ∀ (k : Nat), 2 ≤ k → ∀ (sc : Scope), MkE ⟨P, w, K, mg, base, [], sc, k, fun _ => true, none, []⟩ "InvalidMatrix" (C0 K 0) "given" := fun k hk sc => mkE_of (c := ⟨P, w, K, mg, base, [], sc, k, fun _ => true, none, []⟩) init_0 FI_0 (A.ec 0 (by decide)) (O 0 (by decide)).1 (fl 0 (by decide) _ (by decide)) (inB_ok (O 0 (by decide)).2).1 (inB_ok (O 0 (by decide)).2).2 hk (A.gc 0 (by decide))
  obtain ⟨fI_1, FI_1⟩ := c.mt (x := "InvalidType") (m := "__init__") (q := "InvalidType.__init__") (st := L2.inClass (topS 3) 0) (List.mem_of_getElem? (i := 16) rfl)
  have mkE_1 : ∀ (k : Nat), 2 ≤ k → ∀ (sc : Scope), MkE ⟨P, w, K, mg, base, [], sc, k, fun _ => true, none, []⟩ "InvalidType" (C0 K 1) "given" := fun k hk sc => mkE_of (c := ⟨P, w, K, mg, base, [], sc, k, fun _ => true, none, []⟩) init_1 FI_1 (A.ec 1 (by decide)) (O 1 (by decide)).1 (fl 1 (by decide) _ (by decide)) (inB_ok (O 1 (by decide)).2).1 (inB_ok (O 1 (by decide)).2).2 hk (A.gc 1 (by decide))
  obtain ⟨fI_2, FI_2⟩ := c.mt (x := "InvalidVector") (m := "__init__") (q := "InvalidVector.__init__") (st := L2.inClass (topS 4) 0) (List.mem_of_getElem? (i := 17) rfl)
  have mkE_2 : ∀ (k : Nat), 2 ≤ k → ∀ (sc : Scope), MkE ⟨P, w, K, mg, base, [], sc, k, fun _ => true, none, []⟩ "InvalidVector" (C0 K 2) "given" := fun k hk sc => mkE_of (c := ⟨P, w, K, mg, base, [], sc, k, fun _ => true, none, []⟩) init_2 FI_2 (A.ec 2 (by decide)) (O 2 (by decide)).1 (fl 2 (by decide) _ (by decide)) (inB_ok (O 2 (by decide)).2).1 (inB_ok (O 2 (by decide)).2).2 hk (A.gc 2 (by decide))
  obtain ⟨fI_3, FI_3⟩ := c.mt (x := "InvalidRoot") (m := "__init__") (q := "InvalidRoot.__init__") (st := L2.inClass (topS 5) 0) (List.mem_of_getElem? (i := 18) rfl)
  have mkE_3 : ∀ (k : Nat), 2 ≤ k → ∀ (sc : Scope), MkE ⟨P, w, K, mg, base, [], sc, k, fun _ => true, none, []⟩ "InvalidRoot" (C0 K 3) "given" := fun k hk sc => mkE_of (c := ⟨P, w, K, mg, base, [], sc, k, fun _ => true, none, []⟩) init_3 FI_3 (A.ec 3 (by decide)) (O 3 (by decide)).1 (fl 3 (by decide) _ (by decide)) (inB_ok (O 3 (by decide)).2).1 (inB_ok (O 3 (by decide)).2).2 hk (A.gc 3 (by decide))
  obtain ⟨fI_4, FI_4⟩ := c.mt (x := "InvalidNode") (m := "__init__") (q := "InvalidNode.__init__") (st := L2.inClass (topS 6) 0) (List.mem_of_getElem? (i := 19) rfl)
  have mkE_4 : ∀ (k : Nat), 2 ≤ k → ∀ (sc : Scope), MkE ⟨P, w, K, mg, base, [], sc, k, fun _ => true, none, []⟩ "InvalidNode" (C0 K 4) "given" := fun k hk sc => mkE_of (c := ⟨P, w, K, mg, base, [], sc, k, fun _ => true, none, []⟩) init_4 FI_4 (A.ec 4 (by decide)) (O 4 (by decide)).1 (fl 4 (by decide) _ (by decide)) (inB_ok (O 4 (by decide)).2).1 (inB_ok (O 4 (by decide)).2).2 hk (A.gc 4 (by decide))
  obtain ⟨fI_5, FI_5⟩ := c.mt (x := "InvalidNodes") (m := "__init__") (q := "InvalidNodes.__init__") (st := L2.inClass (topS 7) 0) (List.mem_of_getElem? (i := 20) rfl)
  have mkE_5 : ∀ (k : Nat), 2 ≤ k → ∀ (sc : Scope), MkE ⟨P, w, K, mg, base, [], sc, k, fun _ => true, none, []⟩ "InvalidNodes" (C0 K 5) "given" := fun k hk sc => mkE_of (c := ⟨P, w, K, mg, base, [], sc, k, fun _ => true, none, []⟩) init_5 FI_5 (A.ec 5 (by decide)) (O 5 (by decide)).1 (fl 5 (by decide) _ (by decide)) (inB_ok (O 5 (by decide)).2).1 (inB_ok (O 5 (by decide)).2).2 hk (A.gc 5 (by decide))
  obtain ⟨fI_6, FI_6⟩ := c.mt (x := "InvalidWeight") (m := "__init__") (q := "InvalidWeight.__init__") (st := L2.inClass (topS 8) 0) (List.mem_of_getElem? (i := 21) rfl)
  have mkE_6 : ∀ (k : Nat), 2 ≤ k → ∀ (sc : Scope), MkE ⟨P, w, K, mg, base, [], sc, k, fun _ => true, none, []⟩ "InvalidWeight" (C0 K 6) "given" := fun k hk sc => mkE_of (c := ⟨P, w, K, mg, base, [], sc, k, fun _ => true, none, []⟩) init_6 FI_6 (A.ec 6 (by decide)) (O 6 (by decide)).1 (fl 6 (by decide) _ (by decide)) (inB_ok (O 6 (by decide)).2).1 (inB_ok (O 6 (by decide)).2).2 hk (A.gc 6 (by decide))
  obtain ⟨fI_7, FI_7⟩ := c.mt (x := "InvalidWord") (m := "__init__") (q := "InvalidWord.__init__") (st := L2.inClass (topS 9) 0) (List.mem_of_getElem? (i := 22) rfl)
  have mkE_7 : ∀ (k : Nat), 2 ≤ k → ∀ (sc : Scope), MkE ⟨P, w, K, mg, base, [], sc, k, fun _ => true, none, []⟩ "InvalidWord" (C0 K 7) "given" := fun k hk sc => mkE_of (c := ⟨P, w, K, mg, base, [], sc, k, fun _ => true, none, []⟩) init_7 FI_7 (A.ec 7 (by decide)) (O 7 (by decide)).1 (fl 7 (by decide) _ (by decide)) (inB_ok (O 7 (by decide)).2).1 (inB_ok (O 7 (by decide)).2).2 hk (A.gc 7 (by decide))
  obtain ⟨fI_8, FI_8⟩ := c.mt (x := "InvalidSum") (m := "__init__") (q := "InvalidSum.__init__") (st := L2.inClass (topS 10) 0) (List.mem_of_getElem? (i := 23) rfl)
  have mkE_8 : ∀ (k : Nat), 2 ≤ k → ∀ (sc : Scope), MkE ⟨P, w, K, mg, base, [], sc, k, fun _ => true, none, []⟩ "InvalidSum" (C0 K 8) "given" := fun k hk sc => mkE_of (c := ⟨P, w, K, mg, base, [], sc, k, fun _ => true, none, []⟩) init_8 FI_8 (A.ec 8 (by decide)) (O 8 (by decide)).1 (fl 8 (by decide) _ (by decide)) (inB_ok (O 8 (by decide)).2).1 (inB_ok (O 8 (by decide)).2).2 hk (A.gc 8 (by decide))
  obtain ⟨fI_9, FI_9⟩ := c.mt (x := "InvalidTable") (m := "__init__") (q := "InvalidTable.__init__") (st := L2.inClass (topS 11) 0) (List.mem_of_getElem? (i := 24) rfl)
  have mkE_9 : ∀ (k : Nat), 2 ≤ k → ∀ (sc : Scope), MkE ⟨P, w, K, mg, base, [], sc, k, fun _ => true, none, []⟩ "InvalidTable" (C0 K 9) "given" := fun k hk sc => mkE_of (c := ⟨P, w, K, mg, base, [], sc, k, fun _ => true, none, []⟩) init_9 FI_9 (A.ec 9 (by decide)) (O 9 (by decide)).1 (fl 9 (by decide) _ (by decide)) (inB_ok (O 9 (by decide)).2).1 (inB_ok (O 9 (by decide)).2).2 hk (A.gc 9 (by decide))
  obtain ⟨fI_10, FI_10⟩ := c.mt (x := "InvalidCount") (m := "__init__") (q := "InvalidCount.__init__") (st := L2.inClass (topS 12) 0) (List.mem_of_getElem? (i := 25) rfl)
  have mkE_10 : ∀ (k : Nat), 2 ≤ k → ∀ (sc : Scope), MkE ⟨P, w, K, mg, base, [], sc, k, fun _ => true, none, []⟩ "InvalidCount" (C0 K 10) "given" := fun k hk sc => mkE_of (c := ⟨P, w, K, mg, base, [], sc, k, fun _ => true, none, []⟩) init_10 FI_10 (A.ec 10 (by decide)) (O 10 (by decide)).1 (fl 10 (by decide) _ (by decide)) (inB_ok (O 10 (by decide)).2).1 (inB_ok (O 10 (by decide)).2).2 hk (A.gc 10 (by decide))
  obtain ⟨fI_11, FI_11⟩ := c.mt (x := "InvalidPath") (m := "__init__") (q := "InvalidPath.__init__") (st := L2.inClass (topS 13) 0) (List.mem_of_getElem? (i := 26) rfl)
  have mkE_11 : ∀ (k : Nat), 2 ≤ k → ∀ (sc : Scope), MkE ⟨P, w, K, mg, base, [], sc, k, fun _ => true, none, []⟩ "InvalidPath" (C0 K 11) "given" := fun k hk sc => mkE_of (c := ⟨P, w, K, mg, base, [], sc, k, fun _ => true, none, []⟩) init_11 FI_11 (A.ec 11 (by decide)) (O 11 (by decide)).1 (fl 11 (by decide) _ (by decide)) (inB_ok (O 11 (by decide)).2).1 (inB_ok (O 11 (by decide)).2).2 hk (A.gc 11 (by decide))
  obtain ⟨fI_12, FI_12⟩ := c.mt (x := "InvalidExpression") (m := "__init__") (q := "InvalidExpression.__init__") (st := L2.inClass (topS 14) 0) (List.mem_of_getElem? (i := 27) rfl)
  have mkE_12 : ∀ (k : Nat), 2 ≤ k → ∀ (sc : Scope), MkE ⟨P, w, K, mg, base, [], sc, k, fun _ => true, none, []⟩ "InvalidExpression" (C0 K 12) "given" := fun k hk sc => mkE_of (c := ⟨P, w, K, mg, base, [], sc, k, fun _ => true, none, []⟩) init_12 FI_12 (A.ec 12 (by decide)) (O 12 (by decide)).1 (fl 12 (by decide) _ (by decide)) (inB_ok (O 12 (by decide)).2).1 (inB_ok (O 12 (by decide)).2).2 hk (A.gc 12 (by decide))
  obtain ⟨fI_13, FI_13⟩ := c.mt (x := "InvalidDeed") (m := "__init__") (q := "InvalidDeed.__init__") (st := L2.inClass (topS 15) 0) (List.mem_of_getElem? (i := 28) rfl)
  have mkE_13 : ∀ (k : Nat), 2 ≤ k → ∀ (sc : Scope), MkE ⟨P, w, K, mg, base, [], sc, k, fun _ => true, none, []⟩ "InvalidDeed" (C0 K 13) "given" := fun k hk sc => mkE_of (c := ⟨P, w, K, mg, base, [], sc, k, fun _ => true, none, []⟩) init_13 FI_13 (A.ec 13 (by decide)) (O 13 (by decide)).1 (fl 13 (by decide) _ (by decide)) (inB_ok (O 13 (by decide)).2).1 (inB_ok (O 13 (by decide)).2).2 hk (A.gc 13 (by decide))
  obtain ⟨fI_14, FI_14⟩ := c.mt (x := "InvalidBook") (m := "__init__") (q := "InvalidBook.__init__") (st := L2.inClass (topS 16) 0) (List.mem_of_getElem? (i := 29) rfl)
  have mkE_14 : ∀ (k : Nat), 2 ≤ k → ∀ (sc : Scope), MkE ⟨P, w, K, mg, base, [], sc, k, fun _ => true, none, []⟩ "InvalidBook" (C0 K 14) "given" := fun k hk sc => mkE_of (c := ⟨P, w, K, mg, base, [], sc, k, fun _ => true, none, []⟩) init_14 FI_14 (A.ec 14 (by decide)) (O 14 (by decide)).1 (fl 14 (by decide) _ (by decide)) (inB_ok (O 14 (by decide)).2).1 (inB_ok (O 14 (by decide)).2).2 hk (A.gc 14 (by decide))
  obtain ⟨fI_15, FI_15⟩ := c.mt (x := "NotAlike") (m := "__init__") (q := "NotAlike.__init__") (st := L2.inClass (topS 17) 0) (List.mem_of_getElem? (i := 30) rfl)
  have mkE_15 : ∀ (k : Nat), 2 ≤ k → ∀ (sc : Scope), MkE ⟨P, w, K, mg, base, [], sc, k, fun _ => true, none, []⟩ "NotAlike" (C0 K 15) "given" := fun k hk sc => mkE_of (c := ⟨P, w, K, mg, base, [], sc, k, fun _ => true, none, []⟩) init_15 FI_15 (A.ec 15 (by decide)) (O 15 (by decide)).1 (fl 15 (by decide) _ (by decide)) (inB_ok (O 15 (by decide)).2).1 (inB_ok (O 15 (by decide)).2).2 hk (A.gc 15 (by decide))
  obtain ⟨fI_16, FI_16⟩ := c.mt (x := "TooMany") (m := "__init__") (q := "TooMany.__init__") (st := L2.inClass (topS 18) 0) (List.mem_of_getElem? (i := 31) rfl)
  have mkE_16 : ∀ (k : Nat), 2 ≤ k → ∀ (sc : Scope), MkE ⟨P, w, K, mg, base, [], sc, k, fun _ => true, none, []⟩ "TooMany" (C0 K 16) "given" := fun k hk sc => mkE_of (c := ⟨P, w, K, mg, base, [], sc, k, fun _ => true, none, []⟩) init_16 FI_16 (A.ec 16 (by decide)) (O 16 (by decide)).1 (fl 16 (by decide) _ (by decide)) (inB_ok (O 16 (by decide)).2).1 (inB_ok (O 16 (by decide)).2).2 hk (A.gc 16 (by decide))
  obtain ⟨fI_17, FI_17⟩ := c.mt (x := "InvalidLines") (m := "__init__") (q := "InvalidLines.__init__") (st := L2.inClass (topS 19) 0) (List.mem_of_getElem? (i := 32) rfl)
  have mkE_17 : ∀ (k : Nat), 2 ≤ k → ∀ (sc : Scope), MkE ⟨P, w, K, mg, base, [], sc, k, fun _ => true, none, []⟩ "InvalidLines" (C0 K 17) "index" := fun k hk sc => mkE_of (c := ⟨P, w, K, mg, base, [], sc, k, fun _ => true, none, []⟩) init_17 FI_17 (A.ec 17 (by decide)) (O 17 (by decide)).1 (fl 17 (by decide) _ (by decide)) (inB_ok (O 17 (by decide)).2).1 (inB_ok (O 17 (by decide)).2).2 hk (A.gc 17 (by decide))
  obtain ⟨fI_18, FI_18⟩ := c.mt (x := "BadText") (m := "__init__") (q := "BadText.__init__") (st := L2.inClass (topS 20) 0) (List.mem_of_getElem? (i := 33) rfl)
  have mkE_18 : ∀ (k : Nat), 2 ≤ k → ∀ (sc : Scope), MkE ⟨P, w, K, mg, base, [], sc, k, fun _ => true, none, []⟩ "BadText" (C0 K 18) "spot" := fun k hk sc => mkE_of (c := ⟨P, w, K, mg, base, [], sc, k, fun _ => true, none, []⟩) init_18 FI_18 (A.ec 18 (by decide)) (O 18 (by decide)).1 (fl 18 (by decide) _ (by decide)) (inB_ok (O 18 (by decide)).2).1 (inB_ok (O 18 (by decide)).2).2 hk (A.gc 18 (by decide))
  have ok__law_pot := ok__law_pot (P := P) (w := w) (mg := mg) (base := base) (k := 0) F__law_pot (A.free "abs" (by decide)) (A.free "int" (by decide)) (A.free "len" (by decide))
  have b__law_pot := F__law_pot.binds (ps := ["script", "turn"]) fun _ _ _ _ _ _ us hl => match us, hl with | [_, _], _ => rfl
  have ok__law_draw := ok__law_draw (P := P) (w := w) (mg := mg) (base := base) (k := 0) F__law_draw (A.free "divmod" (by decide)) (A.free "int" (by decide))
  have b__law_draw := F__law_draw.binds (ps := ["pot", "few"]) fun _ _ _ _ _ _ us hl => match us, hl with | [_, _], _ => rfl
  have ok__law_pick := ok__law_pick (P := P) (w := w) (mg := mg) (base := base) (k := 1) F__law_pick (calG ok__law_draw (Nat.le_of_ble_eq_true rfl) (gl "_law_draw" (by decide)) F__law_draw.kp b__law_draw) (A.free "len" (by decide))
  have b__law_pick := F__law_pick.binds (ps := ["pot", "some"]) fun _ _ _ _ _ _ us hl => match us, hl with | [_, _], _ => rfl
  have ok__law_odd := ok__law_odd (P := P) (w := w) (mg := mg) (base := base) (k := 2) F__law_odd (calG ok__law_pick (Nat.le_of_ble_eq_true rfl) (gl "_law_pick" (by decide)) F__law_pick.kp b__law_pick)
  have b__law_odd := F__law_odd.binds (ps := ["pot"]) fun _ _ _ _ _ _ us hl => match us, hl with | [_], _ => rfl
  have b__law_thing := F__law_thing.binds (ps := ["pot", "deep"]) fun _ _ _ _ _ _ us hl => match us, hl with | [_, _], _ => rfl
  have th0 := ok__law_thing (P := P) (w := w) (mg := mg) (base := base) (k := 3) F__law_thing (calG ok__law_draw (Nat.le_of_ble_eq_true rfl) (gl "_law_draw" (by decide)) F__law_draw.kp b__law_draw) (calG ok__law_odd (Nat.le_of_ble_eq_true rfl) (gl "_law_odd" (by decide)) F__law_odd.kp b__law_odd) (calG (fnG_none (n := 2) (nw := false)) (Nat.zero_le _) (gl "_law_thing" (by decide)) F__law_thing.kp b__law_thing) (A.free "range" (by decide)) (A.free "tuple" (by decide))
  have th1 := ok__law_thing (P := P) (w := w) (mg := mg) (base := base) (k := 4) F__law_thing (calG ok__law_draw (Nat.le_of_ble_eq_true rfl) (gl "_law_draw" (by decide)) F__law_draw.kp b__law_draw) (calG ok__law_odd (Nat.le_of_ble_eq_true rfl) (gl "_law_odd" (by decide)) F__law_odd.kp b__law_odd) (calG th0 (Nat.le_of_ble_eq_true rfl) (gl "_law_thing" (by decide)) F__law_thing.kp b__law_thing) (A.free "range" (by decide)) (A.free "tuple" (by decide))
  have ok__law_thing := ok__law_thing (P := P) (w := w) (mg := mg) (base := base) (k := 5) F__law_thing (calG ok__law_draw (Nat.le_of_ble_eq_true rfl) (gl "_law_draw" (by decide)) F__law_draw.kp b__law_draw) (calG ok__law_odd (Nat.le_of_ble_eq_true rfl) (gl "_law_odd" (by decide)) F__law_odd.kp b__law_odd) (calG th1 (Nat.le_of_ble_eq_true rfl) (gl "_law_thing" (by decide)) F__law_thing.kp b__law_thing) (A.free "range" (by decide)) (A.free "tuple" (by decide))
  have ok__law_of_given := ok__law_of_given (P := P) (w := w) (mg := mg) (base := base) (C := C0 K) (k := 2) F__law_of_given (mkE_0 _ (by decide) _) (mkE_1 _ (by decide) _) (mkE_2 _ (by decide) _) (mkE_3 _ (by decide) _) (mkE_4 _ (by decide) _) (mkE_5 _ (by decide) _) (mkE_6 _ (by decide) _) (mkE_7 _ (by decide) _) (mkE_8 _ (by decide) _) (mkE_9 _ (by decide) _) (mkE_10 _ (by decide) _) (mkE_11 _ (by decide) _) (mkE_12 _ (by decide) _) (mkE_13 _ (by decide) _) (mkE_14 _ (by decide) _) (mkE_15 _ (by decide) _) (mkE_16 _ (by decide) _)
  have b__law_of_given := F__law_of_given.binds (ps := ["number", "thing"]) fun _ _ _ _ _ _ us hl => match us, hl with | [_, _], _ => rfl
  have ok__law_by_given := ok__law_by_given (P := P) (w := w) (mg := mg) (base := base) (C := C0 K) (k := 2) F__law_by_given (mkE_0 _ (by decide) _) (mkE_1 _ (by decide) _) (mkE_2 _ (by decide) _) (mkE_3 _ (by decide) _) (mkE_4 _ (by decide) _) (mkE_5 _ (by decide) _) (mkE_6 _ (by decide) _) (mkE_7 _ (by decide) _) (mkE_8 _ (by decide) _) (mkE_9 _ (by decide) _) (mkE_10 _ (by decide) _) (mkE_11 _ (by decide) _) (mkE_12 _ (by decide) _) (mkE_13 _ (by decide) _) (mkE_14 _ (by decide) _) (mkE_15 _ (by decide) _) (mkE_16 _ (by decide) _)
  have b__law_by_given := F__law_by_given.binds (ps := ["number", "thing"]) fun _ _ _ _ _ _ us hl => match us, hl with | [_, _], _ => rfl
  have ok__law_made := ok__law_made (P := P) (w := w) (mg := mg) (base := base) (C := C0 K) (k := 3) F__law_made (calG ok__law_by_given (Nat.le_of_ble_eq_true rfl) (gl "_law_by_given" (by decide)) F__law_by_given.kp b__law_by_given) (calG ok__law_of_given (Nat.le_of_ble_eq_true rfl) (gl "_law_of_given" (by decide)) F__law_of_given.kp b__law_of_given) (mkE_17 _ (by decide) _) (mkE_18 _ (by decide) _) (A.mk0 19 (by decide) _ rfl rfl) (A.mk0 20 (by decide) _ rfl rfl) (A.mk0 21 (by decide) _ rfl rfl) (A.mk0 22 (by decide) _ rfl rfl)
  have b__law_made := F__law_made.binds (ps := ["number", "thing", "is_named"]) fun _ _ _ _ _ _ us hl => match us, hl with | [_, _, _], _ => rfl
  have ok__law_kept := ok__law_kept (P := P) (w := w) (mg := mg) (base := base) (C := C0 K) (k := 0) F__law_kept (A.fld "index" (by decide)) (A.fld "spot" (by decide)) (A.fld "given" (by decide))
  have b__law_kept := F__law_kept.binds (ps := ["number", "error"]) fun _ _ _ _ _ _ us hl => match us, hl with | [_, _], _ => rfl
  have ok__law_of_classes := ok__law_of_classes (P := P) (w := w) (mg := mg) (base := base) (C := C0 K) (k := 0) F__law_of_classes A.hcs (A.gc 2 (by decide)) (A.gc 1 (by decide)) (A.gc 0 (by decide)) (A.gc 5 (by decide)) (A.gc 4 (by decide)) (A.gc 3 (by decide)) (A.gc 8 (by decide)) (A.gc 7 (by decide)) (A.gc 6 (by decide)) (A.gc 11 (by decide)) (A.gc 10 (by decide)) (A.gc 9 (by decide)) (A.gc 13 (by decide)) (A.gc 12 (by decide)) (A.gc 16 (by decide)) (A.gc 15 (by decide)) (A.gc 14 (by decide)) (A.gc 19 (by decide)) (A.gc 18 (by decide)) (A.gc 17 (by decide)) (A.gc 22 (by decide)) (A.gc 21 (by decide)) (A.gc 20 (by decide)) (A.free "isinstance" (by decide))
  have b__law_of_classes := F__law_of_classes.binds (ps := ["error"]) fun _ _ _ _ _ _ us hl => match us, hl with | [_], _ => rfl
  have ok__law_is_of := ok__law_is_of (P := P) (w := w) (mg := mg) (base := base) (C := C0 K) (k := 1) F__law_is_of A.hcs (A.gc 23 (by decide)) (calG ok__law_of_classes (Nat.le_of_ble_eq_true rfl) (gl "_law_of_classes" (by decide)) F__law_of_classes.kp b__law_of_classes) (A.free "ArithmeticError" (by decide)) (A.free "AttributeError" (by decide)) (A.free "Exception" (by decide)) (A.free "LookupError" (by decide)) (A.free "RuntimeError" (by decide)) (A.free "TypeError" (by decide)) (A.free "ValueError" (by decide)) (A.free "isinstance" (by decide)) (A.free "range" (by decide))
  have b__law_is_of := F__law_is_of.binds (ps := ["number", "error"]) fun _ _ _ _ _ _ us hl => match us, hl with | [_, _], _ => rfl
  have ok__law_are_right := ok__law_are_right (P := P) (w := w) (mg := mg) (base := base) (C := C0 K) (k := 6) F__law_are_right (calG ok__law_draw (Nat.le_of_ble_eq_true rfl) (gl "_law_draw" (by decide)) F__law_draw.kp b__law_draw) (calG ok__law_thing (Nat.le_of_ble_eq_true rfl) (gl "_law_thing" (by decide)) F__law_thing.kp b__law_thing) (calG ok__law_made (Nat.le_of_ble_eq_true rfl) (gl "_law_made" (by decide)) F__law_made.kp b__law_made) (calG ok__law_is_of (Nat.le_of_ble_eq_true rfl) (gl "_law_is_of" (by decide)) F__law_is_of.kp b__law_is_of) (calG ok__law_kept (Nat.le_of_ble_eq_true rfl) (gl "_law_kept" (by decide)) F__law_kept.kp b__law_kept) (A.free "range" (by decide)) (A.free "repr" (by decide)) (A.free "zip" (by decide))
  have b__law_are_right := F__law_are_right.binds (ps := ["pot", "first"]) fun _ _ _ _ _ _ us hl => match us, hl with | [_, _], _ => rfl
  have b__law_met := F__law_met.binds (ps := ["number", "thing"]) fun _ _ _ _ _ _ us hl => match us, hl with | [_, _], _ => rfl
  have ok__law_met := ok__law_met (P := P) (w := w) (mg := mg) (base := base) (C := C0 K) (k := 2) F__law_met A.hcs (A.fld "given" (by decide)) (A.fld "spot" (by decide)) Z.exm Z.kit19 (A.gc 5 (by decide)) (A.gc 18 (by decide)) (A.gc 22 (by decide)) (A.gc 23 (by decide)) (A.gc 19 (by decide)) (mkE_4 _ (by decide) _) (mkE_18 _ (by decide) _) (mkE_16 _ (by decide) _) (A.mk0 19 (by decide) _ rfl rfl) (exB_ok (A.ec 19 (by decide))).2.1 (A.free "isinstance" (by decide)) F__law_kept b__law_kept (gl "_law_kept" (by decide))
  have ok__law_right := ok__law_right (P := P) (w := w) (mg := mg) (base := base) (C := C0 K) (k := 7) F__law_right (calG ok__law_draw (Nat.le_of_ble_eq_true rfl) (gl "_law_draw" (by decide)) F__law_draw.kp b__law_draw) (calG ok__law_are_right (Nat.le_of_ble_eq_true rfl) (gl "_law_are_right" (by decide)) F__law_are_right.kp b__law_are_right) (calG ok__law_thing (Nat.le_of_ble_eq_true rfl) (gl "_law_thing" (by decide)) F__law_thing.kp b__law_thing) (calG ok__law_met (Nat.le_of_ble_eq_true rfl) (gl "_law_met" (by decide)) F__law_met.kp b__law_met) (A.mk0 23 (by decide) _ rfl rfl) (calG ok__law_of_classes (Nat.le_of_ble_eq_true rfl) (gl "_law_of_classes" (by decide)) F__law_of_classes.kp b__law_of_classes) A.hcs (A.free "ValueError" (by decide)) (A.free "int" (by decide)) (A.free "isinstance" (by decide)) (A.free "range" (by decide)) (A.free "repr" (by decide))
  have b__law_right := F__law_right.binds (ps := ["pot"]) fun _ _ _ _ _ _ us hl => match us, hl with | [_], _ => rfl
  have ok_law := ok_law (P := P) (w := w) (mg := mg) (base := base) (C := C0 K) (k := 8) F_law (calG ok__law_right (Nat.le_of_ble_eq_true rfl) (gl "_law_right" (by decide)) F__law_right.kp b__law_right) (calG ok__law_pot (Nat.le_of_ble_eq_true rfl) (gl "_law_pot" (by decide)) F__law_pot.kp b__law_pot) (A.free "all" (by decide)) (A.free "len" (by decide)) (A.free "max" (by decide)) (A.free "min" (by decide)) (A.free "range" (by decide))
  have b_law := F_law.binds (ps := ["script"]) fun _ _ _ _ _ _ us hl => match us, hl with | [_], _ => rfl
  exact ok_law
end Fw
set_option Elab.async false
set_option linter.all false
set_option maxRecDepth 100000
set_option maxHeartbeats 0
open PySem PySem.W PySem.Calls PyProof.Rows
theorem PySem.Challenge.cw_weylweights_k01_errors_each_of_its_own_holds : PySem.Challenge.rw_weylweights_k01_errors_each_of_its_own.Holds := by
  w_on; o_law
  refine HandSHeadRun.head_any (r := Fw.R0) (q := Fw.view0) (H := Fw.hk0) (ob := Fw.ob0) (M := 20000) (loose := (Fw.nmC ++ Fw.fn0.map (·.name)).dropLast) (d := HandSHeadRun.topDef Fw.R0.prog 40) (kwd := []) Fw.ob0_eq
    (by kernel_rfl) (fun s => by kernel_rfl) Fw.run0 (by kernel_rfl) (by kernel_rfl) (by kernel_rfl) (by rfl) (by first | assumption | decide +kernel) (by decide +kernel) ⟨rfl, rfl, rfl, rfl, rfl, by decide +kernel⟩ ?hw ?hc
  case hw => w_witness2
  case hc =>
    refine Fw.walkGE (l := PySem.Challenge.rw_weylweights_k01_errors_each_of_its_own) (n := 63) (k := 9) (x := "script") (m := fun _ => none) rfl (by decide) (by kernel_rfl) ⟨rfl, by decide, by decide⟩ ?F
    intro w mg fa h Y G hmg0
    obtain ⟨K, KX, c⟩ := Y
    have hmg : mg ("law" : PySem.Str) = some (.ref fa) := by
      have e : (HandSHeadRun.topDef Fw.R0.prog 40).name = ("law" : PySem.Str) := by kernel_rfl
      rw [← e]
      exact hmg0
    obtain ⟨fd, hb, hl, nl, hm, hF⟩ := Fw.chain0 (P := (PySem.Challenge.rw_weylweights_k01_errors_each_of_its_own).prog) (w := w) KX G c
    have e := hmg.symm.trans hl
    cases e
    exact ⟨K, fd, Fw.d_law K (Fw.C0 K), KX, nl, hb, hm, hF⟩
