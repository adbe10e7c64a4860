import PyProof.Rows.All
import Wide.All
import OpenK.AllK
import Wide.FinOn
import KE.KStateDown
import HandS.ForMost
import HandS.ForExc
import HandS.ExcInit
import HandS.ExcIs
import HandS.ExcField
import HandS.WideBits
import HandS.IsInst
import HandS.MakeKwOnly
import HandS.Defaults
import HandS.Head0
import HandS.Head1
import HandS.Head2
import HandS.HeadEnd
import HandS.HeadHook1
import HandS.HeadHook2
import HandS.EndBits
import HandS.RaiseMore
import HandS.Style
import KE.KExcIs
import KE.KDictDisplayH
import PySem.Challenge.RW_farhandles_k01_errors_made
set_option Elab.async false
set_option linter.all false
set_option maxRecDepth 100000
set_option maxHeartbeats 4000000
namespace Fh
open PySem PySem.Spec PyProof.Rows L2

/-! ### defs that are called where no repr is under way -/
structure FnG (P : Program) (w : World) (K : PySem.W.Frag) (mg : Str → Option Value) (base : Heap) (CX : CXT) (k : Nat) (f : Addr) (fd : FuncData) (ps : List Str) (sp : Sp) : Prop where
  len : ∀ vs H Q E, sp vs H Q E → vs.length = ps.length
  go : ∀ (A : Around) (outer : List Env) (s : Shared) (H : Hp) (args : Args) (us : List Value) (vs : List V) (Q : VK) (E : XK), A.guards = some [] → Room k A →
    Env0 P w K mg base A outer s H → BindsTo s fd args (ps.zip us) → Vals vs us → sp vs H Q E → codeAny (model P w) A (.call (.ref f) args) (CR CX outer P w H s Q E) s
section
variable {P : Program} {w : World} {K : PySem.W.Frag} {mg : Str → Option Value} {base : Heap} {CX : CXT} {k : Nat} {f : Addr} {fd : FuncData} {ps : List Str} {sp : Sp}
theorem FnG.of (F : FnOk P w K mg base CX k f fd ps sp) : FnG P w K mg base CX k f fd ps sp :=
  ⟨F.len, fun A outer s H args us vs Q E _ hr => F.run A outer s H args us vs Q E hr⟩
/-- a def by its body, the callers' repr known to be at rest -/
theorem fnG_of {name qual : Str} {params : Arguments} {body : List Stmt} {scope : Scope} {dV kV doc pm cdv ct oc : Value} {an od : Option Addr} {osl : Array (Option Value)} {N : List Str}
    (lk : K.lookup f = some ⟨oc, od, .func (PySem.W.fnOf name qual params body scope dV kV doc pm an cdv ct), osl⟩) (hcd : PySem.W.codeIn K cdv qual = true) (S : FnScope N ps scope)
    (len : ∀ vs H Q E, sp vs H Q E → vs.length = ps.length)
    (hbody : ∀ (A : Around) (outer : List Env) (s : Shared) (H : Hp) (vs : List V) (Q : VK) (E : XK), A.guards = some [] → Room k (A.deeper (envOfC qual scope s.heap.objs.size f cdv)) → sp vs H Q E →
      ∃ t, PSs (cxOf CX P w K mg base N qual scope f cdv A outer s H E) body t ∧ t { nx := fun _ H' => Q .non H', rt := Q } (start N vs) H) :
    FnG P w K mg base CX (k + 1) f (PySem.W.fnOf name qual params body scope dV kV doc pm an cdv ct) ps sp := by
  refine ⟨len, fun A outer s H args us vs Q E hgd hr e0 hb r hsp => ?_⟩
  have hl := len _ _ _ _ hsp
  have KX : K.In s.heap := e0.mod.kin.keeps fun b o e => (e0.bs b o e).1
  have lim : s.heap.NoLimit := e0.mod.nolimit.keeps fun b o e => (e0.bs b o e).1
  have kinds : ∀ y ∈ ps.zip us, scope.names.lookup y.1 = some .local ∨ (scope.names.lookup y.1 = some .cell ∧ ((cellsFrom (s.heap.objs.size + 1) scope.names []).lookup y.1).isSome = true) := by
    rintro ⟨n, v⟩ hy
    rcases S.par n (List.of_mem_zip hy).1 with q | q
    · exact Or.inl q
    · exact Or.inr ⟨q, PySem.W.cellsFrom_some _ _ _ (Or.inl q)⟩
  refine codeAny_call_function hr.depth (KX _ _ lk) rfl S.co S.gen rfl (PySem.W.codeRec_of KX hcd) (hb _ _ _ _ ?_)
  refine wpAny_newFunctionEnv_cells S.kind kinds fun env he s1 x => ?_
  subst he
  refine ⟨lim.keeps x.toInCall.keep, codeAny_func ?_⟩
  obtain ⟨t, ht, hq⟩ := hbody A outer s H vs Q E hgd (hr.deeper _) hsp
  have I : Inv (cxOf CX P w K mg base N qual scope f cdv A outer s H E) [] (start N vs) H s1 := inv_start S hr.hd e0 hl r x
  refine wpAny_mono (ht.run [] s1 (start N vs) H _ I hq) (fun fl s' hs => ?_) (fun e s' hs => hs)
  have fin : ∀ {σ' : L2.St} {H' : Hp} {v : V} {u : Value}, Inv (cxOf CX P w K mg base N qual scope f cdv A outer s H E) [] σ' H' s' → RelV v u → Q v H' → CE outer P w H s Q u s' :=
    fun {_ H' v _} J rv q => ⟨v, H', J.os, J.bare, J.base, J.hok, rv, q⟩
  cases fl with
  | ret u => obtain ⟨v, σ', H', J, rv, q⟩ := hs; exact fin J rv q
  | next => obtain ⟨σ', H', J, q⟩ := hs; exact fin (v := V.non) (u := Value.none) J rfl q
  | brk => obtain ⟨_, _, _, q⟩ := hs; exact q.elim
  | cont => obtain ⟨_, _, _, q⟩ := hs; exact q.elim
end
/-- a FunD's def, by its body -/
theorem funG {P : Program} {w : World} {K : PySem.W.Frag} {mg : Str → Option Value} {base : Heap} {CX : CXT} {k : Nat} {f : Addr} {fd : FuncData} {N ps : List Str} {sp : Sp} {x qual : Str} {params : Arguments} {body : List Stmt} {scope : Scope} {dvs : List V} {kws : List (Str × V)}
    (F : FunD K x qual params body scope dvs kws f fd) (S : FnScope N ps scope) (len : ∀ vs H Q E, sp vs H Q E → vs.length = ps.length)
    (hbody : ∀ (cdv : Value) (A : Around) (outer : List Env) (s : Shared) (H : Hp) (vs : List V) (Q : VK) (E : XK), A.guards = some [] → Room k (A.deeper (envOfC qual scope s.heap.objs.size f cdv)) → sp vs H Q E →
      ∃ t, PSs (cxOf CX P w K mg base N qual scope f cdv A outer s H E) body t ∧ t { nx := fun _ H' => Q .non H', rt := Q } (start N vs) H) : FnG P w K mg base CX (k + 1) f fd ps sp := by
  obtain ⟨oc, od, dV, kV, doc, pm, an, cdv, ct, osl, rfl, lk, hcd, _, _⟩ := F.ex
  exact fnG_of lk hcd S len fun A outer s H vs Q E hg hr hsp => hbody cdv A outer s H vs Q E hg hr hsp
section
variable {X : Cx} {CX : CXT} {k : Nat} {f : Addr} {fd : FuncData} {ps : List Str} {sp : Sp} {dvs : List V} {ds : List Value} {E : XK} {x : Str} {p pos : Pos} {e : Expr} {es : List Expr} {t : TA}
theorem goG {pins : List (Addr × Obj)} {σ : L2.St} {H : Hp} {s : Shared} {Q : VK} {us : List Value} {vs : List V} (F : FnG X.prog X.w X.K X.mg X.base CX k f fd ps sp) (hgd : X.A.guards = some []) (hr : Room k X.A) (hb : Binds X.K fd ps ds) (hd : Vals dvs ds)
    (hx : Passes CX X E) (I : Inv X pins σ H s) (r : Vals vs us) (h : sp (vs ++ dvs) H Q E) : wpAny (model X.prog X.w) X.A (call (.ref f) us) (EP X pins σ Q) X.xe s := by
  have r2 : Vals (vs ++ dvs) (us ++ ds) := r.append hd
  have hl : (us ++ ds).length = ps.length := by
    rw [← r2.length]
    exact F.len _ _ _ _ h
  refine wpAny_call (codeAny_mono (F.go X.A X.stack s H ⟨us, []⟩ (us ++ ds) (vs ++ dvs) Q E hgd hr I.env0 (hb s us I.kIn hl) r2 h) fun r s' hq => ?_)
  cases r with
  | error er => exact hx pins σ H s er s' I hq
  | ok fl => cases fl with
    | ret u => exact I.after hq
    | next => exact hq.elim
    | brk => exact hq.elim
    | cont => exact hq.elim
theorem peG_call (F : FnG X.prog X.w X.K X.mg X.base CX k f fd ps sp) (hgd : X.A.guards = some []) (hr : Room k X.A) (hg : Gl X x) (hm : X.mg x = some (.ref f)) (hk : PySem.W.keepIn X.K (.ref f) = true) (hb : Binds X.K fd ps ds) (hd : Vals dvs ds) (hx : Passes CX X E)
    (ha : PA X (e :: es) t) (hdb : (x == ("__debug__" : Str)) = false := by decide) (he : starEach (e :: es) X.env = (false, eval e X.env) :: starEach es X.env := by rfl) (hpl : (backTo pos (starEach es X.env)).any (·.1) = false := by rfl) :
    PE X (.Call (.Name x p) (e :: es) [] pos) (tCall sp dvs E t) := by
  refine ⟨fun pins s σ H Q I h => ?_⟩
  refine wpAny_Call_Name_kw (ld_glob I hg hm ?_ hdb)
  exact PySem.W.callWith_K (h₀ := X.base) I.ok.mod.kin hk (thn (ha.run pos pins s σ H _ I h) fun us s1 ⟨vs, H1, I1, r, q⟩ => ⟨I1.kIn, goG F hgd hr hb hd hx I1 r q⟩) he hpl
end

end Fh
namespace Fh
open PySem PySem.Spec PyProof.Rows L2
abbrev Sto := L2.St
/-! ### data in the abstract heap -/
def keyD : Key → PyData
  | .inl i => .int i
  | .inr x => .str x
mutual
def Dq (H : Hp) : PyData → V → Prop
  | .none, v => v = .non
  | .bool b, v => v = .bl b
  | .int i, v => v = .int i
  | .str x, v => v = .str x
  | .list ds, v => ∃ a xs, v = .ref a ∧ a ≠ sysModules ∧ H a = some (.lst xs) ∧ DqAll H ds xs
  | .tuple ds, v => ∃ a xs, v = .ref a ∧ H a = some (.tup xs) ∧ DqAll H ds xs
  | .dict kvs, v => ∃ a, v = .ref a ∧ ((∃ ps : List (Key × V), H a = some (.dK ps) ∧ DqK H kvs ps) ∨ ∃ ps : List (List Key × V), H a = some (.dT ps) ∧ DqT H kvs ps)
def DqAll (H : Hp) : List PyData → List V → Prop
  | [], vs => vs = []
  | d :: ds, vs => ∃ v r, vs = v :: r ∧ Dq H d v ∧ DqAll H ds r
def DqK (H : Hp) : List (PyData × PyData) → List (Key × V) → Prop
  | [], ps => ps = []
  | (k, d) :: r, ps => ∃ key v q, ps = (key, v) :: q ∧ k = keyD key ∧ Dq H d v ∧ DqK H r q
def DqT (H : Hp) : List (PyData × PyData) → List (List Key × V) → Prop
  | [], ps => ps = []
  | (k, d) :: r, ps => ∃ ks v q, ps = (ks, v) :: q ∧ k = .tuple (ks.map keyD) ∧ Dq H d v ∧ DqT H r q
end
mutual
theorem Dq.up {H H' : Hp} (e : Same H H') : ∀ (d : PyData) (v : V), Dq H d v → Dq H' d v
  | .none, _, h => by simpa only [Dq] using h
  | .bool _, _, h => by simpa only [Dq] using h
  | .int _, _, h => by simpa only [Dq] using h
  | .str _, _, h => by simpa only [Dq] using h
  | .list ds, v, h => by
    simp only [Dq] at h ⊢
    obtain ⟨a, xs, rfl, n, q, r⟩ := h
    exact ⟨a, xs, rfl, n, e _ _ q, DqAll.up e ds xs r⟩
  | .tuple ds, v, h => by
    simp only [Dq] at h ⊢
    obtain ⟨a, xs, rfl, q, r⟩ := h
    exact ⟨a, xs, rfl, e _ _ q, DqAll.up e ds xs r⟩
  | .dict kvs, v, h => by
    simp only [Dq] at h ⊢
    obtain ⟨a, rfl, ⟨ps, q, r⟩ | ⟨ps, q, r⟩⟩ := h
    · exact ⟨a, rfl, .inl ⟨ps, e _ _ q, DqK.up e kvs ps r⟩⟩
    · exact ⟨a, rfl, .inr ⟨ps, e _ _ q, DqT.up e kvs ps r⟩⟩
theorem DqAll.up {H H' : Hp} (e : Same H H') : ∀ (ds : List PyData) (vs : List V), DqAll H ds vs → DqAll H' ds vs
  | [], _, h => by simpa only [DqAll] using h
  | d :: ds, _, h => by
    simp only [DqAll] at h ⊢
    obtain ⟨v, r, rfl, h1, h2⟩ := h
    exact ⟨v, r, rfl, Dq.up e d v h1, DqAll.up e ds r h2⟩
theorem DqK.up {H H' : Hp} (e : Same H H') : ∀ (ds : List (PyData × PyData)) (vs : List (Key × V)), DqK H ds vs → DqK H' ds vs
  | [], _, h => by simpa only [DqK] using h
  | (k, d) :: ds, _, h => by
    simp only [DqK] at h ⊢
    obtain ⟨key, v, q, rfl, h0, h1, h2⟩ := h
    exact ⟨key, v, q, rfl, h0, Dq.up e d v h1, DqK.up e ds q h2⟩
theorem DqT.up {H H' : Hp} (e : Same H H') : ∀ (ds : List (PyData × PyData)) (vs : List (List Key × V)), DqT H ds vs → DqT H' ds vs
  | [], _, h => by simpa only [DqT] using h
  | (k, d) :: ds, _, h => by
    simp only [DqT] at h ⊢
    obtain ⟨key, v, q, rfl, h0, h1, h2⟩ := h
    exact ⟨key, v, q, rfl, h0, Dq.up e d v h1, DqT.up e ds q h2⟩
end
theorem reads_keys {h : Heap} : ∀ (ks : List Key) (us : List Value), Vals (ks.map kV) us → ReadsAll h us (ks.map keyD) []
  | [], us, r => by cases r; exact .nil
  | .inl i :: ks, us, r => by
    cases r with
    | cons r1 r2 =>
      obtain ⟨t, rfl⟩ := r1
      exact ReadsAll.cons (as := []) (bs := []) (.int i t) (reads_keys ks _ r2)
  | .inr x :: ks, us, r => by
    cases r with
    | cons r1 r2 =>
      obtain ⟨t, rfl⟩ := r1
      exact ReadsAll.cons (as := []) (bs := []) (.str x t) (reads_keys ks _ r2)
section
variable {P : Program} {w : World} {H : Hp} {h : Heap}
theorem key_reads {k : Key} {u : Value} (e : keyIs k u = true) : Reads h u (keyD k) [] := by
  rcases keyIs_shape e with ⟨i, t, rfl, rfl⟩ | ⟨x, t, rfl, rfl⟩
  · exact .int i t
  · exact .str x t
mutual
theorem Dq.reads (ok : HOk P w H h) : ∀ (d : PyData) (v : V) (u : Value), Dq H d v → RelV v u → ∃ as, Reads h u d as ∧ sysModules ∉ as
  | .none, v, u, e, r => by
    simp only [Dq] at e; subst e; cases r
    exact ⟨[], .none, List.not_mem_nil⟩
  | .bool b, v, u, e, r => by
    simp only [Dq] at e; subst e; cases r
    exact ⟨[], .bool b, List.not_mem_nil⟩
  | .int i, v, u, e, r => by
    simp only [Dq] at e; subst e; obtain ⟨t, rfl⟩ := r
    exact ⟨[], .int i t, List.not_mem_nil⟩
  | .str x, v, u, e, r => by
    simp only [Dq] at e; subst e; obtain ⟨t, rfl⟩ := r
    exact ⟨[], .str x t, List.not_mem_nil⟩
  | .list ds, v, u, e, r => by
    simp only [Dq] at e
    obtain ⟨a, xs, rfl, n, q, s⟩ := e
    cases r
    obtain ⟨_, its, m, rv, hg⟩ := (show ObjOk P w H h a (.lst xs) from ok a _ q)
    obtain ⟨as, ra, na⟩ := DqAll.reads ok ds xs its s rv
    refine ⟨_, Reads.list hg rfl rfl ra, fun z => ?_⟩
    rcases List.mem_cons.mp z with z | z
    · exact n z.symm
    · exact na z
  | .tuple ds, v, u, e, r => by
    simp only [Dq] at e
    obtain ⟨a, xs, rfl, q, s⟩ := e
    cases r
    obtain ⟨_, its, rv, o, hg, hc, m, hd⟩ := (show ObjOk P w H h a (.tup xs) from ok a _ q)
    obtain ⟨as, ra, na⟩ := DqAll.reads ok ds xs its s rv
    exact ⟨_, Reads.tuple hg hc hd ra, na⟩
  | .dict kvs, v, u, e, r => by
    simp only [Dq] at e
    obtain ⟨a, rfl, ⟨ps, q, s⟩ | ⟨ps, q, s⟩⟩ := e
    · cases r
      obtain ⟨_, hy, vs, rel, dd⟩ := dk_of ok q
      obtain ⟨o, es, ep, ho, hx, hd, _, hp, _⟩ := dd
      obtain ⟨bs, ka, kb, nb⟩ := DqK.reads ok kvs ps vs es.toList s rel hp
      refine ⟨_, Reads.dict ho hx.1 hd ka kb, fun z => ?_⟩
      rcases List.mem_append.mp z with z | z
      · rcases List.mem_cons.mp z with z | z
        · exact (beq_eq_false_iff_ne.mp hy) z.symm
        · exact absurd z List.not_mem_nil
      · exact nb z
    · cases r
      obtain ⟨_, hy, xs, rel, dd⟩ := dt_of ok q
      obtain ⟨o, es, ep, ho, hx, hd, he, _, _⟩ := dd
      obtain ⟨bs, ka, kb, nb⟩ := DqT.reads ok kvs ps xs s rel
      refine ⟨_, Reads.dict ho hx.1 hd (as := []) (bs := bs) ?_ ?_, fun z => ?_⟩
      · rw [he, List.map_map]; exact ka
      · rw [he, List.map_map]; exact kb
      · rcases List.mem_append.mp z with z | z
        · rcases List.mem_cons.mp z with z | z
          · exact (beq_eq_false_iff_ne.mp hy) z.symm
          · exact absurd z List.not_mem_nil
        · exact nb z
theorem DqAll.reads (ok : HOk P w H h) : ∀ (ds : List PyData) (vs : List V) (us : List Value), DqAll H ds vs → Vals vs us → ∃ as, ReadsAll h us ds as ∧ sysModules ∉ as
  | [], vs, us, e, r => by
    simp only [DqAll] at e; subst e; cases r
    exact ⟨[], .nil, List.not_mem_nil⟩
  | d :: ds, vs, us, e, r => by
    simp only [DqAll] at e
    obtain ⟨v, q, rfl, e1, e2⟩ := e
    cases r with
    | cons r1 r2 =>
      obtain ⟨as, x1, n1⟩ := Dq.reads ok d v _ e1 r1
      obtain ⟨bs, x2, n2⟩ := DqAll.reads ok ds q _ e2 r2
      exact ⟨_, .cons x1 x2, fun z => (List.mem_append.mp z).elim n1 n2⟩
theorem DqK.reads (ok : HOk P w H h) : ∀ (kvs : List (PyData × PyData)) (ps : List (Key × V)) (vs : List (Key × Value)) (es : List DictEntry), DqK H kvs ps → KV ps vs → Pairs (mixKind P w) es vs →
    ∃ bs, ReadsAll h (es.map (·.key)) (kvs.map (·.1)) [] ∧ ReadsAll h (es.map (·.val)) (kvs.map (·.2)) bs ∧ sysModules ∉ bs
  | [], ps, vs, es, e, r, k => by
    simp only [DqK] at e; subst e; cases r; cases k
    exact ⟨[], .nil, .nil, List.not_mem_nil⟩
  | (k, d) :: kvs, ps, vs, es, e, r, m => by
    simp only [DqK] at e
    obtain ⟨key, v, q, rfl, rfl, e1, e2⟩ := e
    cases r with
    | cons r1 r2 =>
      cases m with
      | cons m0 m1 m2 =>
        obtain ⟨bs, x1, n1⟩ := Dq.reads ok d v _ e1 r1.2
        obtain ⟨cs, y1, y2, y3⟩ := DqK.reads ok kvs q _ _ e2 r2 m2
        have q1 : key = _ := r1.1
        refine ⟨bs ++ cs, ReadsAll.cons (as := []) (bs := []) (key_reads (by rw [q1]; exact m0)) y1, ReadsAll.cons (by show Reads h _ d bs; rw [show (fun (x : DictEntry) => x.val) _ = _ from m1]; exact x1) y2, fun z => (List.mem_append.mp z).elim n1 y3⟩
theorem DqT.reads (ok : HOk P w H h) : ∀ (kvs : List (PyData × PyData)) (ps : List (List Key × V)) (xs : List (List Key × Addr × Value)), DqT H kvs ps → KT H ps xs →
    ∃ bs, ReadsAll h (xs.map fun x => Value.ref x.2.1) (kvs.map (·.1)) [] ∧ ReadsAll h (xs.map fun x => x.2.2) (kvs.map (·.2)) bs ∧ sysModules ∉ bs
  | [], ps, xs, e, r => by
    simp only [DqT] at e; subst e; cases r
    exact ⟨[], .nil, .nil, List.not_mem_nil⟩
  | (k, d) :: kvs, ps, xs, e, r => by
    simp only [DqT] at e
    obtain ⟨ks, v, q, rfl, rfl, e1, e2⟩ := e
    cases r with
    | @cons _ x _ xs r1 r2 =>
      obtain ⟨bs, x1, n1⟩ := Dq.reads ok d v _ e1 r1.2.2
      obtain ⟨cs, y1, y2, y3⟩ := DqT.reads ok kvs q _ e2 r2
      obtain ⟨_, its, rv, o, hg, hc, m, hd⟩ := (show ObjOk P w H h x.2.1 (.tup (ks.map kV)) from ok _ _ r1.2.1)
      refine ⟨bs ++ cs, ReadsAll.cons (as := []) (bs := []) (Reads.tuple hg hc hd (reads_keys ks its rv)) y1, ReadsAll.cons x1 y2, fun z => (List.mem_append.mp z).elim n1 y3⟩
end
end
/-! ### repr -/
structure DOk (d : PyData) : Prop where
  sh : d.showable = true
  dp : d.depth ≤ 60
  sz : d.shown.length ≤ sizeLine
  ok : PyData.strOk d.shown = true
def rRepr : List V → Hp → VK → Prop := fun xs H Q => ∃ v d, xs = [v] ∧ Dq H d v ∧ DOk d ∧ Q (.str d.shown) H
theorem call_repr {X : Cx} (hg : X.A.guards = some []) (hu : X.A.units + 64 < cLine) : CallR X (.builtin "repr") rRepr := by
  intro pins s σ H xs us Q I r h
  obtain ⟨v, d, rfl, hd, ok, q⟩ := h
  obtain ⟨u, rfl, ru⟩ := vals1 r
  obtain ⟨as, hr, hn⟩ := Dq.reads I.hok d v u hd ru
  have sh := ok.sh
  have dp := ok.dp
  have sz := ok.sz
  cases d with
  | none =>
    simp only [Dq] at hd; subst hd; cases ru
    exact P.repr_of_none ⟨V.str _, H, I.tok _, ⟨_, rfl⟩, by simpa only [PyData.shown] using q⟩
  | bool b =>
    simp only [Dq] at hd; subst hd; cases ru
    exact P.repr_of_bool ⟨V.str _, H, I.tok _, ⟨_, rfl⟩, by simpa only [PyData.shown] using q⟩
  | int i =>
    simp only [Dq] at hd; subst hd; obtain ⟨t, rfl⟩ := ru
    exact P.repr_of_int (by simpa [PyData.showable] using sh) ⟨V.str _, H, I.tok _, ⟨_, rfl⟩, by simpa only [PyData.shown] using q⟩
  | str x =>
    simp only [Dq] at hd; subst hd; obtain ⟨t, rfl⟩ := ru
    exact P.repr_of_str ⟨V.str _, H, I.tok _, ⟨_, rfl⟩, by simpa only [PyData.shown] using q⟩ (by simpa only [PyData.shown] using sz)
  | list ds =>
    simp only [Dq] at hd; obtain ⟨a, _, rfl, _⟩ := hd; cases ru
    exact repr_of_reads' hr sh (fun _ => hn) hg (by omega) (fun _ _ e => e) (fun h' u tk hk => ⟨V.str _, H, I.kept hk, ⟨_, rfl⟩, q⟩) sz
  | tuple ds =>
    simp only [Dq] at hd; obtain ⟨a, _, rfl, _⟩ := hd; cases ru
    exact repr_of_reads' hr sh (fun _ => hn) hg (by omega) (fun _ _ e => e) (fun h' u tk hk => ⟨V.str _, H, I.kept hk, ⟨_, rfl⟩, q⟩) sz
  | dict kvs =>
    simp only [Dq] at hd; obtain ⟨a, rfl, _⟩ := hd; cases ru
    exact repr_of_reads' hr sh (fun _ => hn) hg (by omega) (fun _ _ e => e) (fun h' u tk hk => ⟨V.str _, H, I.kept hk, ⟨_, rfl⟩, q⟩) sz

/-! ### weaker readings -/
theorem pe_imp {X : Cx} {e : Expr} {t t' : TE} (h : PE X e t) (i : ∀ σ H Q, t' σ H Q → t σ H Q) : PE X e t' := ⟨fun pins s σ H Q I q => h.run pins s σ H Q I (i _ _ _ q)⟩
theorem pa_imp {X : Cx} {es : List Expr} {t t' : TA} (h : PA X es t) (i : ∀ σ H Q, t' σ H Q → t σ H Q) : PA X es t' := ⟨fun pos pins s σ H Q I q => h.run pos pins s σ H Q I (i _ _ _ q)⟩
/-- [..]: the new list isn't sys.modules -/
theorem pe_lstS {X : Cx} {es : List Expr} {t : TA} {pos : Pos} (h : PA X es t) : PE X (.List es pos) (fun σ H Q => t σ H fun xs H1 => xs.length ≤ sizeLine ∧ ∀ p, H1 p = none → p ≠ sysModules → Q (.ref p) (upd H1 p (.lst xs))) := by
  refine ⟨fun pins s σ H Q I hq => ?_⟩
  refine wpAny_List_spliced (thn (h.run pos pins s σ H _ I hq) fun us s1 hx => ?_)
  obtain ⟨xs, H1, I1, r, z, q⟩ := hx
  have hf : H1 s1.heap.objs.size = none := I1.hok.fresh (Nat.le_refl _)
  refine ⟨by rw [← r.length]; exact z, .ref s1.heap.objs.size, upd H1 s1.heap.objs.size (.lst xs), I1.laid (t' := s1.toks) (fun b u e => Heap.get?_push_of_some _ e) (Nat.le_refl _) ?_, rfl, q _ hf (Nat.ne_of_gt I1.big)⟩
  exact ⟨z, us, 0, r, Heap.get?_push_size _ rfl⟩
/-! ### data that is written out -/
/-- what H' has that H had not -/
def newH (H H' : Hp) : Hp := fun b => match H b with
  | some _ => none
  | none => H' b
theorem newH_none {H H' : Hp} {b : Addr} (h : H b = none) : newH H H' b = H' b := by unfold newH; rw [h]
theorem newH_up {H H' : Hp} : Same (newH H H') H' := fun b o e => by
  unfold newH at e
  cases h : H b with
  | none => rw [h] at e; exact e
  | some _ => rw [h] at e; cases e
theorem newH_r {H H1 H2 : Hp} (s : Same H1 H2) : Same (newH H H1) (newH H H2) := fun b o e => by
  unfold newH at e ⊢
  cases h : H b with
  | none => rw [h] at e; exact s b o e
  | some _ => rw [h] at e; cases e
theorem newH_l {H H1 H2 : Hp} (s : Same H H1) : Same (newH H1 H2) (newH H H2) := fun b o e => by
  unfold newH at e ⊢
  cases h1 : H1 b with
  | none => rw [h1] at e; rw [s.free h1]; exact e
  | some _ => rw [h1] at e; cases e
theorem same_upd {H : Hp} {p : Addr} {o : HO} (h : H p = none) : Same H (upd H p o) := fun b u e => by
  rw [upd_ne (ne_of_none e h)]; exact e
def tDat (d : PyData) : TE := fun _ H Q => ∀ v H', Same H H' → Dq (newH H H') d v → Q v H'
def tDats (ds : List PyData) : TA := fun _ H Q => ∀ vs H', Same H H' → DqAll (newH H H') ds vs → Q vs H'
section
variable {X : Cx} {e : Expr} {es : List Expr} {pos : Pos} {d : PyData} {ds : List PyData}
theorem dat_of {v : V} {t : TE} (h : PE X e t) (i : ∀ σ H (Q : VK), Q v H → t σ H Q) (hd : ∀ H, Dq H d v) : PE X e (tDat d) :=
  pe_imp h fun σ H Q q => i σ H Q (q v H (Same.refl H) (hd _))
theorem dat_int {i : Int} {j : Nat} : PE X (.Constant (.int i) j pos) (tDat (.int i)) := dat_of pe_int (fun _ _ _ q => q) fun _ => by simp only [Dq]
theorem dat_str {x : Str} {j : Nat} : PE X (.Constant (.str x) j pos) (tDat (.str x)) := dat_of pe_str (fun _ _ _ q => q) fun _ => by simp only [Dq]
theorem dat_bl {b : Bool} {j : Nat} : PE X (.Constant (.bool b) j pos) (tDat (.bool b)) := dat_of pe_bl (fun _ _ _ q => q) fun _ => by simp only [Dq]
theorem dat_non {j : Nat} : PE X (.Constant .none j pos) (tDat .none) := dat_of pe_non (fun _ _ _ q => q) fun _ => by simp only [Dq]
theorem dat_sub {i j : Int} {a b : Nat} {p1 p2 : Pos} : PE X (.BinOp (.Constant (.int i) a p1) .Sub (.Constant (.int j) b p2) pos) (tDat (.int (i - j))) := dat_of (pe_op op_sub pe_int pe_int) (fun _ _ _ q => ⟨_, _, rfl, rfl, q⟩) fun _ => by simp only [Dq]
theorem dat_pow {i j : Int} {a b : Nat} {p1 p2 : Pos} (h0 : 0 ≤ j) (h1 : j ≤ 1000000) (h2 : i.natAbs < 2 ^ 64) : PE X (.BinOp (.Constant (.int i) a p1) .Pow (.Constant (.int j) b p2) pos) (tDat (.int (i ^ j.toNat))) :=
  dat_of (pe_op op_pow pe_int pe_int) (fun _ _ _ q => ⟨_, _, rfl, rfl, ⟨h0, h1, h2⟩, q⟩) fun _ => by simp only [Dq]
theorem dats_nil : PA X [] (tDats []) := pa_imp pa_nil fun σ H Q q => q [] H (Same.refl H) (by simp only [DqAll])
theorem dats_cons (h : PE X e (tDat d)) (hs : PA X es (tDats ds)) (hst : starEach (e :: es) X.env = (false, eval e X.env) :: starEach es X.env := by rfl) : PA X (e :: es) (tDats (d :: ds)) := pa_imp (pa_cons h hs hst) fun σ H Q q => by
  intro v H1 s1 h1 vs H2 s2 h2
  refine q (v :: vs) H2 (s1.trans s2) ?_
  simp only [DqAll]
  exact ⟨v, vs, rfl, Dq.up (newH_r s2) _ _ h1, DqAll.up (newH_l s1) _ _ h2⟩
theorem dqAll_len {H : Hp} : ∀ (ds : List PyData) (vs : List V), DqAll H ds vs → vs.length = ds.length
  | [], _, h => by simp only [DqAll] at h; rw [h]; rfl
  | d :: ds, _, h => by
    simp only [DqAll] at h
    obtain ⟨v, r, rfl, _, h2⟩ := h
    rw [List.length_cons, List.length_cons, dqAll_len ds r h2]
theorem dat_lst (h : PA X es (tDats ds)) (hz : ds.length ≤ sizeLine) : PE X (.List es pos) (tDat (.list ds)) := pe_imp (pe_lstS h) fun σ H Q q => by
  intro vs H1 s1 h1
  refine ⟨by rw [dqAll_len _ _ h1]; exact hz, fun p hp hn => q (.ref p) _ (s1.trans (same_upd hp)) ?_⟩
  simp only [Dq]
  have p0 : H p = none := s1.free hp
  exact ⟨p, vs, rfl, hn, by rw [newH_none p0, upd_same], DqAll.up (newH_r (same_upd hp)) _ _ h1⟩
theorem dat_tup {x1 : Nat} (h : PA X es (tDats ds)) (hz : ds.length ≤ sizeLine) : PE X (.Tuple es x1 pos) (tDat (.tuple ds)) := pe_imp (pe_tup h) fun σ H Q q => by
  intro vs H1 s1 h1
  refine ⟨by rw [dqAll_len _ _ h1]; exact hz, fun p hp => q (.ref p) _ (s1.trans (same_upd hp)) ?_⟩
  simp only [Dq]
  have p0 : H p = none := s1.free hp
  exact ⟨p, vs, rfl, by rw [newH_none p0, upd_same], DqAll.up (newH_r (same_upd hp)) _ _ h1⟩
theorem dat_dict0 : PE X (.Dict [] [] pos) (tDat (.dict [])) := pe_imp pe_dnewK fun σ H Q q => by
  intro p hp
  refine q (.ref p) _ (same_upd hp) ?_
  simp only [Dq]
  exact ⟨p, rfl, .inl ⟨[], by rw [newH_none hp, upd_same], by simp only [DqK]⟩⟩
end
end Fh
namespace Fh
open PySem PySem.Spec PyProof.Rows L2
open PySem.HandSPX (excO refsVE)
open Builtin Builtin.ObjectAttr
/-! ### an own exception class called with keywords -/
section
variable {prog : Program} {w : World} {A : Around} {E : Value → Shared → Prop} {R : Result → Shared → Prop} {h : Heap} {g : Array GenState} {d : Drawn} {t : Nat} {os : OsState}
variable {nm q : Str} {C N : Addr} {bs bm bmB : List Value} {hdct : Bool} {sn : List Str} {sub : List Value} {ab : Bool} {col : Option Bool} {dd : Option Addr} {k0 k1 k2 k3 k5 : Option Value} {B newId initId : String} {us : List Value} {kw : List (Str × Value)}
theorem kwCheckNew {M : Model} (F : ExcBaseFacts B newId initId bmB) (hT : ∀ X : String, bm.contains (.type X) = bmB.contains (.type X)) {Q : Unit → Shared → Prop}
    (hC : h.get? C = some (excClassObj nm q C N bs bm hdct sn sub ab col dd k0 k1 k2 k3 k5 newId)) (hq : Q () ⟨h, g, d, t, os⟩) : wpAny M A (checkBuiltinCall newId ⟨.ref C :: us, kw⟩) Q E ⟨h, g, d, t, os⟩ := by
  have hcont : (Value.ref C :: bm).contains (.type B) = true := by rw [List.contains_cons, hT, F.hasB, Bool.or_true]
  have hstar := F.noStar
  simp only [checkBuiltinCall, F.newKind, F.newSplit, F.newRow]
  repeat (first | refine wpAny_loadPart_at hC ?_ | (refine wpAny_isSubtype_exc hC ?_; rw [hcont]) | refine wpAny_staticBase_exc hC ?_ | refine wpAny_madeBy_exc hC ?_ | simp only [bne_self_eq_false, Bool.false_eq_true, if_false] | wp_step)
  exact hq
theorem kwNew (F : ExcBaseFacts B newId initId bmB) (hT : ∀ X : String, bm.contains (.type X) = bmB.contains (.type X)) (hC : h.get? C = some (excClassObj nm q C N bs bm hdct sn sub ab col dd k0 k1 k2 k3 k5 newId))
    (hq : R (.ok (.ret (.ref (h.objs.size + 1)))) ⟨(h.push { cls := .type "tuple", data := .seq us.toArray }).push { cls := .ref C, data := .fields #[.ref h.objs.size, .none, .none, .none, .bool false, .none] }, g, d, t, os⟩) (hl : us.length ≤ sizeLine) :
    codeAny (model prog w) A (.builtin newId ⟨.ref C :: us, kw⟩) R ⟨h, g, d, t, os⟩ := by
  have hends := F.ends
  have c1 : (Value.ref C :: bm).contains (.type B) = true := by rw [List.contains_cons, hT, F.hasB, Bool.or_true]
  have c2 : (Value.ref C :: bm).contains (.type "AttributeError") = false := by rw [List.contains_cons, hT, F.noAttr]; rfl
  have c3 : (Value.ref C :: bm).contains (.type "NameError") = false := by rw [List.contains_cons, hT, F.noName]; rfl
  refine codeAny_builtinAt F.entry ?_
  unfold Builtin.«BaseException.__new__»
  refine PySem.wpAt_bind ?_
  show PySem.wpAt _ _ _ (stack >>= _) _ _ _
  refine PySem.wpAt_bind (PySem.wpAt_stack fun p below => PySem.wpAt_of_wpAny ?_)
  wp_walk
  refine PySem.wpAt_of_wpAny ?_
  rw [F.owner]
  repeat (first | with_reducible refine wpAny_madeHere_exc F.canon hC ?_ | with_reducible refine wpAny_loadPart_at hC ?_ | (with_reducible refine wpAny_isSubtype_exc hC ?_; first | rw [c1] | rw [c2] | rw [c3]) | wp_step)
  show R _ _
  rw [Heap.size_push]
  exact hq
theorem kwTypeCall (F : ExcBaseFacts B newId initId bmB) (hT : ∀ X : String, bm.contains (.type X) = bmB.contains (.type X)) {fI : Addr} {Q : Fin → Shared → Prop} (hC : h.get? C = some (excClassObj nm q C N bs bm hdct sn sub ab col dd k0 k1 k2 k3 k5 newId))
    (hi : W.Looks (model prog w) h (typeLookup (.ref C) "__init__") (some (.ref fI))) (hb : ∀ self, W.Looks (model prog w) h (bindSpecial (.ref fI) self) (.ref fI, [self])) (hl : us.length ≤ sizeLine)
    (hq : codeAny (model prog w) A (.call (.ref fI) ⟨.ref (h.objs.size + 1) :: us, kw⟩)
      (fun r s' => match r with | .ok (.ret v) => v = .none ∧ Q (.done (.ret (.ref (h.objs.size + 1)))) s' | .ok _ => False | .error e => E e s') ⟨(h.push (W.kdv_tup us)).push (excO C h.objs.size), g, d, t, os⟩) :
    wpAny (model prog w) A (Builtin.«type.__call__» ⟨.ref C :: us, kw⟩) Q E ⟨h, g, d, t, os⟩ := by
  repeat (first | with_reducible refine wpAny_loadPart_at hC ?_ | with_reducible refine wpAny_madeBy_exc hC ?_ | wp_step)
  refine codeAny_call_builtin_code (Code.quiet_builtin _ F.quiet) (kwCheckNew F hT hC ?_)
  refine kwNew F hT hC ?_ hl
  show wpAny _ _ _ _ _ _
  have k : ∀ b o, h.get? b = some o → ((h.push (W.kdv_tup us)).push (excO C h.objs.size)).get? b = some o := fun b o e => Heap.get?_push_of_some _ (Heap.get?_push_of_some _ e)
  have hC2 := k _ _ hC
  have hget : ((h.push (W.kdv_tup us)).push (excO C h.objs.size)).get? (h.objs.size + 1) = some (excO C h.objs.size) := by heap_get
  have hcC : (Value.ref C :: bm).contains (.ref C) = true := by simp
  have i1 := hi.keeps k
  have b1 := (hb (.ref (h.objs.size + 1))).keeps k
  unfold isInstance
  repeat (first | with_reducible refine wpAny_loadPart_at hget ?_ | (with_reducible refine wpAny_isSubtype_exc hC2 ?_; rw [hcC]) | wp_step)
  show wpAny _ _ (typeLookup (.ref C) _) _ _ _
  refine i1.at ?_
  refine wpAny_holding (wpAny_bind (b1.at ?_))
  refine wpAny_bind (wpAny_call (codeAny_mono hq fun r s' z => ?_))
  rcases r with e | (v | _ | _ | _) <;> first | exact z | exact z.elim | skip
  obtain ⟨rfl, z⟩ := z
  first
    | exact wpAny_pure (wpAny_pure z)
    | (wp_walk; exact z)
theorem kwCall (F : ExcBaseFacts B newId initId bmB) (hT : ∀ X : String, bm.contains (.type X) = bmB.contains (.type X)) {fI : Addr} (hC : h.get? C = some (excClassObj nm q C N bs bm hdct sn sub ab col dd k0 k1 k2 k3 k5 newId))
    (hi : W.Looks (model prog w) h (typeLookup (.ref C) "__init__") (some (.ref fI))) (hb : ∀ self, W.Looks (model prog w) h (bindSpecial (.ref fI) self) (.ref fI, [self])) (hl : us.length ≤ sizeLine)
    (hq : codeAny (model prog w) (A.under (.builtin "type.__call__" ⟨.ref C :: us, kw⟩)) (.call (.ref fI) ⟨.ref (h.objs.size + 1) :: us, kw⟩) (W.InitBack (h.objs.size + 1) R) ⟨(h.push (W.kdv_tup us)).push (excO C h.objs.size), g, d, t, os⟩) :
    codeAny (model prog w) A (.call (.ref C) ⟨us, kw⟩) R ⟨h, g, d, t, os⟩ := by
  have f1 := tc_lookup
  have f2 := tc_bind (.ref C)
  have hTy : (⟨h, g, d, t, os⟩ : Shared).TypeIs (.ref C) "type" := ⟨_, hC, rfl⟩
  refine codeAny_of_tree ?_
  show wpAny _ _ (callAny (.ref C) _) _ _ _
  repeat (any_goals (first | assumption | with_reducible refine wpAny_loadPart_at hC ?_ | wp_step))
  refine ⟨rfl, ?_⟩
  refine codeAny_call_builtin_at (Code.quiet_builtin _ (by decide +kernel)) entry_typeCall (W.check_slot tc_kind tc_split ?_ (W.tc_args _ _ _) (kwTypeCall F hT hC hi hb hl ?_))
  · have lt : W.Looks (model prog w) h (typeOf (.ref C)) (.type "type") := (W.Looks.ld hC).andThen .now
    exact lt.andThen (W.Looks.of_pure tc_sub)
  refine codeAny_mono hq fun r s' z => ?_
  rcases r with e | (v | _ | _ | _) <;> exact z
end
end Fh
namespace Fh
open PySem PySem.Spec PyProof.Rows L2
open PySem.HandSPX (excO refsVE)
/-! ### own exceptions as values -/
/-- v is an exception of the class at C whose field f holds y -/
def ExAt (H : Hp) (v : V) (C : Addr) (f : Str) (y : V) : Prop := ∃ a dx, v = .ref a ∧ H a = some (exo a C (some dx)) ∧ H dx = some (exd dx [(f, y)])
/-- v is an exception of the class at C, without a field -/
def ExAt0 (H : Hp) (v : V) (C : Addr) : Prop := ∃ a, v = .ref a ∧ H a = some (exo a C none)
theorem ExAt.up {H H' : Hp} {v y : V} {C : Addr} {f : Str} (s : Same H H') (h : ExAt H v C f y) : ExAt H' v C f y := by
  obtain ⟨a, dx, e, h1, h2⟩ := h
  exact ⟨a, dx, e, s _ _ h1, s _ _ h2⟩
theorem ExAt0.up {H H' : Hp} {v : V} {C : Addr} (s : Same H H') (h : ExAt0 H v C) : ExAt0 H' v C := by
  obtain ⟨a, e, h1⟩ := h
  exact ⟨a, e, s _ _ h1⟩
/-- def __init__(self, f): self.f = f -/
def spXi (K : PySem.W.Frag) (C : Addr) (f : Str) : Sp := fun vs H Q _ => ∃ a y, vs = [.ref a, y] ∧ OexC K C ∧ PySem.W.findIn K (.ref C) f = some none ∧ H a = some (exo a C none) ∧ ∀ dx, H dx = none → dx ≠ a → Q .non (upd (upd H dx (exd dx [(f, y)])) a (exo a C (some dx)))
/-- def __init__(self): pass -/
def spXo : Sp := fun vs H Q _ => ∃ a, vs = [.ref a] ∧ Q .non H
section
variable {X : Cx} {CX : CXT} {k : Nat} {C fI : Addr} {fd : FuncData} {ps : List Str} {sp : Sp} {pins : List (Addr × Obj)} {σ : Sto} {H : Hp} {s : Shared} {Q : VK}
theorem run_ex {us ws : List Value} {kw : List (Str × Value)} {zs : List V} (T : OexC X.K C) (iC : PySem.W.findIn X.K (.ref C) "__init__" = some (some (.ref fI))) (tI : PySem.W.typeIn X.K (.ref fI) = some (.type "function"))
    (F1 : FnOk X.prog X.w X.K X.mg X.base CX k fI fd ps sp) (hr : Room (k + 1) X.A) (hb : ∀ (s : Shared) (a : Value), BindsTo s fd ⟨a :: us, kw⟩ (ps.zip (a :: ws))) (hx : Passes CX X (fun _ _ _ => False)) (hl : us.length ≤ sizeLine)
    (I : Inv X pins σ H s) (r : Vals zs ws) (h : ∀ a, H a = none → sp (.ref a :: zs) (upd H a (exo a C none)) (fun v H2 => v = .non ∧ Q (.ref a) H2) (fun _ _ _ => False)) :
    wpAny (model X.prog X.w) X.A (call (.ref C) us kw) (EP X pins σ Q) X.xe s := by
  obtain ⟨nm, q, N, bs, bm, sn, sub, ab, col, dd, k0, k1, k2, k3, k5, hC, hbm⟩ := T.cls
  obtain ⟨hp, g, dr, tk, os⟩ := s
  have hsz : hp.objs.size ≤ hp.objs.size + 1 := Nat.le_succ _
  have hq := h (hp.objs.size + 1) (I.hok.fresh hsz)
  have kk : ∀ b o, hp.get? b = some o → ((hp.push (PySem.W.kdv_tup us)).push (excO C hp.objs.size)).get? b = some o := fun b o e => Heap.get?_push_of_some _ (Heap.get?_push_of_some _ e)
  have hget : ((hp.push (PySem.W.kdv_tup us)).push (excO C hp.objs.size)).get? (hp.objs.size + 1) = some (excO C hp.objs.size) := by heap_get
  have I2 : Inv X pins σ (upd H (hp.objs.size + 1) (exo (hp.objs.size + 1) C none)) ⟨(hp.push (PySem.W.kdv_tup us)).push (excO C hp.objs.size), g, dr, tk, os⟩ :=
    I.laid (t' := tk) (a := hp.objs.size + 1) (o := exo (hp.objs.size + 1) C none) (h' := (hp.push (PySem.W.kdv_tup us)).push (excO C hp.objs.size)) kk hsz (exo_ok hget)
  have r2 : Vals (V.ref (hp.objs.size + 1) :: zs) (Value.ref (hp.objs.size + 1) :: ws) := .cons rfl r
  refine wpAny_call (kwCall F.excBase_ValueError (fun Y => PySem.HandSPX.refsVE_contains Y bm hbm) (I.kIn _ _ hC) (PySem.W.looks_findIn I.kIn iC) (fun self => PySem.W.bind_fn I.kIn self tI) hl
    (codeAny_mono (F1.run _ X.stack _ _ ⟨Value.ref (hp.objs.size + 1) :: us, kw⟩ (Value.ref (hp.objs.size + 1) :: ws) _ _ (fun _ _ _ => False) (hr.make C us kw) (I2.env0.make C us kw) (hb _ _) r2 hq) fun r s' hq' => ?_))
  cases r with
  | error er => exact hx pins σ _ _ er s' I2 hq'
  | ok fl => cases fl with
    | ret u =>
      obtain ⟨v, H', I3, rv, ev, q3⟩ := I2.after hq'
      subst ev
      exact ⟨rv, ⟨V.ref (hp.objs.size + 1), H', I3, rfl, q3⟩⟩
    | next => exact False.elim hq'
    | brk => exact False.elim hq'
    | cont => exact False.elim hq'
end
section
variable {X : Cx} {CX : CXT} {k : Nat} {C fI : Addr} {fd : FuncData} {f x : Str} {p pos kp : Pos} {e : Expr} {te : TE}
def tEx (C : Addr) (f : Str) (te : TE) : TE := fun σ H Q => te σ H fun y H1 => ∀ v H', Same H1 H' → ExAt H' v C f y → Q v H'
theorem ex_end {K : PySem.W.Frag} {H : Hp} {y : V} {Q : VK} (T : OexC K C) (hf : PySem.W.findIn K (.ref C) f = some none) (q : ∀ v H', Same H H' → ExAt H' v C f y → Q v H') (a : Addr) (ha : H a = none) :
    spXi K C f [.ref a, y] (upd H a (exo a C none)) (fun v H2 => v = .non ∧ Q (.ref a) H2) (fun _ _ _ => False) := by
  refine ⟨a, y, rfl, T, hf, upd_same, fun dx hd hne => ⟨rfl, q _ _ (fun b o e => ?_) ⟨a, dx, rfl, upd_same, ?_⟩⟩⟩
  · have hd0 : H dx = none := by rw [upd_ne hne] at hd; exact hd
    rw [upd_ne (ne_of_none e ha), upd_ne (ne_of_none e hd0), upd_ne (ne_of_none e ha)]
    exact e
  · rw [upd_ne hne, upd_same]
/-- one value alone -/
def only1 (Q : VK) : List V → Hp → Prop := fun vs H => match vs with
  | [y] => Q y H
  | _ => False
theorem only1_vals {Q : VK} {vs : List V} {us : List Value} {H : Hp} (h : only1 Q vs H) (r : Vals vs us) : ∃ y u, vs = [y] ∧ us = [u] ∧ RelV y u ∧ Q y H := by
  match vs, h with
  | [y], h =>
    obtain ⟨u, rfl, ru⟩ := vals1 r
    exact ⟨y, u, rfl, rfl, ru, h⟩
/-- C(e) -/
theorem pe_ex (T : OexC X.K C) (hf : PySem.W.findIn X.K (.ref C) f = some none) (iC : PySem.W.findIn X.K (.ref C) "__init__" = some (some (.ref fI))) (tI : PySem.W.typeIn X.K (.ref fI) = some (.type "function"))
    (F1 : FnOk X.prog X.w X.K X.mg X.base CX k fI fd ["self", f] (spXi X.K C f)) (hr : Room (k + 1) X.A) (hb : ∀ (s : Shared) (a u : Value), BindsTo s fd ⟨[a, u], []⟩ [("self", a), (f, u)]) (hx : Passes CX X (fun _ _ _ => False))
    (hg : Gl X x) (hm : X.mg x = some (.ref C)) (he : PE X e te) (hdb : (x == ("__debug__" : Str)) = false := by decide) (hst : starEach [e] X.env = (false, eval e X.env) :: starEach [] X.env := by rfl) (hpl : (backTo pos (starEach [] X.env)).any (·.1) = false := by rfl) :
    PE X (.Call (.Name x p) [e] [] pos) (tEx C f te) := by
  refine ⟨fun pins s σ H Q I h => ?_⟩
  refine wpAny_Call_Name_kw (ld_glob I hg hm ?_ hdb)
  refine PySem.W.callWith_K (h₀ := X.base) I.ok.mod.kin T.kC (thn ((pa_cons he pa_nil hst).run pos pins s σ H (only1 fun y H1 => ∀ v H', Same H1 H' → ExAt H' v C f y → Q v H') I h) fun us s1 hh => ?_) hst hpl
  obtain ⟨vs, H1, I1, r1, q1⟩ := hh
  obtain ⟨y, u, rfl, rfl, ru, q⟩ := only1_vals q1 r1
  exact ⟨I1.kIn, run_ex (ws := [u]) (zs := [y]) T iC tI F1 hr (fun s a => hb s a u) hx (by rw [sizeLine_eq]; show 1 ≤ 16777216; decide) I1 (.cons ru .nil) (ex_end T hf q)⟩
/-- C(f = e) -/
theorem pe_exK (T : OexC X.K C) (hf : PySem.W.findIn X.K (.ref C) f = some none) (iC : PySem.W.findIn X.K (.ref C) "__init__" = some (some (.ref fI))) (tI : PySem.W.typeIn X.K (.ref fI) = some (.type "function"))
    (F1 : FnOk X.prog X.w X.K X.mg X.base CX k fI fd ["self", f] (spXi X.K C f)) (hr : Room (k + 1) X.A) (hb : ∀ (s : Shared) (a u : Value), BindsTo s fd ⟨[a], [(f, u)]⟩ [("self", a), (f, u)]) (hx : Passes CX X (fun _ _ _ => False))
    (hg : Gl X x) (hm : X.mg x = some (.ref C)) (he : PE X e te) (hdb : (x == ("__debug__" : Str)) = false := by decide)
    (hall : (backToKw pos (keywordEach [⟨some f, e, kp⟩] X.env)).all (·.1.isSome) = true := by rfl) (hks : (backToKw pos (keywordEach [⟨some f, e, kp⟩] X.env)).filterMap (·.1) = [f] := by rfl)
    (hpl : ((backTo pos (starEach [] X.env)).any (·.1) || (backToKw pos (keywordEach [⟨some f, e, kp⟩] X.env)).any (·.1.isNone)) = false := by rfl) :
    PE X (.Call (.Name x p) [] [⟨some f, e, kp⟩] pos) (tEx C f te) := by
  refine ⟨fun pins s σ H Q I h => ?_⟩
  refine wpAny_Call_Name_kw (ld_glob I hg hm ?_ hdb)
  refine PySem.W.callWith_KW0 (h₀ := X.base) I.ok.mod.kin T.kC hall ?_ hpl
  refine thn ((pk_cons (nm := some f) (kpos := kp) he pk_nil).run pos pins s σ H (only1 fun y H1 => ∀ v H', Same H1 H' → ExAt H' v C f y → Q v H') I h) fun us s1 hh => ?_
  obtain ⟨vs, H1, I1, r1, q1⟩ := hh
  obtain ⟨y, u, rfl, rfl, ru, q⟩ := only1_vals q1 r1
  rw [hks]
  exact ⟨I1.kIn, run_ex (us := []) (kw := [(f, u)]) (ws := [u]) (zs := [y]) T iC tI F1 hr (fun s a => hb s a u) hx (Nat.zero_le _) I1 (.cons ru .nil) (ex_end T hf q)⟩
/-- C() -/
theorem pe_ex0 (T : OexC X.K C) (iC : PySem.W.findIn X.K (.ref C) "__init__" = some (some (.ref fI))) (tI : PySem.W.typeIn X.K (.ref fI) = some (.type "function"))
    (F1 : FnOk X.prog X.w X.K X.mg X.base CX k fI fd ["self"] spXo) (hr : Room (k + 1) X.A) (hb : ∀ (s : Shared) (a : Value), BindsTo s fd ⟨[a], []⟩ [("self", a)]) (hx : Passes CX X (fun _ _ _ => False))
    (hg : Gl X x) (hm : X.mg x = some (.ref C)) (hdb : (x == ("__debug__" : Str)) = false := by decide) : PE X (.Call (.Name x p) [] [] pos) (fun σ H Q => ∀ v H', Same H H' → ExAt0 H' v C → Q v H') := by
  refine ⟨fun pins s σ H Q I h => ?_⟩
  refine wpAny_Call_Name_kw (ld_glob I hg hm ?_ hdb)
  refine PySem.W.callWith_K0 I.kIn T.kC (run_ex (us := []) (ws := []) (zs := []) T iC tI F1 hr (fun s a => hb s a) hx (Nat.zero_le _) I .nil fun a ha => ⟨a, rfl, rfl, h _ _ (same_upd ha) ⟨a, rfl, upd_same⟩⟩)
end
/-! ### their fields, their kinds -/
section
variable {X : Cx} {C : Addr} {f : Str} {e : Expr} {te : TE} {pos : Pos}
/-- e.f of such an exception -/
def tExF (K : PySem.W.Frag) (f : Str) (te : TE) : TE := fun σ H Q => te σ H fun v H1 => ∃ C y, XfC K C ∧ PySem.W.findIn K (.ref C) f = some none ∧ ExAt H1 v C f y ∧ Q y H1
theorem pe_exF {K : PySem.W.Frag} (he : PE X e te) (hK : X.K = K := by rfl) (hb : attributeBase e f X.env (eval e X.env) = eval e X.env := by rfl) : PE X (.Attribute e f pos) (tExF K f te) := by
  subst hK
  refine ⟨fun pins s σ H Q I h => ?_⟩
  refine attr_of hb (thn (he.run pins s σ H _ I h) fun u s1 hh => ?_)
  obtain ⟨v, H1, I1, rv, C, y, T, hno, ⟨a, dx, rfl, ha, hd⟩, q⟩ := hh
  cases rv
  obtain ⟨t1, ho⟩ := exo_at I1.hok ha
  obtain ⟨mA, hns, rel⟩ := exd_at I1.hok hd
  obtain ⟨od, hod, hl⟩ := lookIn_ns hns
  have hlf : ([(f, y)] : List (Str × V)).lookup f = some y := by simp [List.lookup]
  obtain ⟨u, hu, ru⟩ := RelO.some_of (v := y) (o := mA f) (by rw [← hlf]; exact rel f)
  have J : PySem.W.InstAt s1.heap a { cls := .ref C, dict := some dx, data := .fields #[.ref t1, .none, .none, .none, .bool false, .none] } C (some od) := ⟨ho, rfl, rfl, hod⟩
  exact PySem.HandSPX.exc_get I1.kIn J T.ga T.gg T.exC (PySem.W.findObj_own T.hdC hno rfl (by rw [hl, hu])) (handed_of ru) ⟨y, H1, I1.tok _, ru, q⟩
end
end Fh
namespace Fh
open PySem PySem.Spec PyProof.Rows L2 He
open PySem.HandSPX (excO refsVE)
/-! ### what the written part says of an own exception class, as one Bool -/
def oexB (K : PySem.W.Frag) (C : Addr) : Bool := match K.lookup C with
  | some ⟨.type c, _, .cls cd, sl⟩ => (match cd.mro, sl.toList with
    | .ref C' :: bm, [_, _, _, _, some (.builtin n), _] => decide (c = "type") && (decide (C' = C) && (decide (n = "ValueError.__new__") && (cd.hasDict && (!cd.hasDel && refsVE bm))))
    | _, _ => false)
  | _ => false
theorem oexB_ok {K : PySem.W.Frag} {C : Addr} (h : oexB K C = true) : ∃ nm q N bs bm sn sub ab col dd k0 k1 k2 k3 k5, K.lookup C = some (excClassObj nm q C N bs bm true sn sub ab col dd k0 k1 k2 k3 k5 "ValueError.__new__") ∧ refsVE bm = true := by
  unfold oexB at h
  split at h
  · rename_i c dd cd sl hk
    split at h
    · rename_i C' bm k0 k1 k2 k3 n k5 hm hs
      simp only [Bool.and_eq_true, decide_eq_true_eq, Bool.not_eq_true'] at h
      obtain ⟨rfl, rfl, rfl, hd, hdel, hv⟩ := h
      obtain ⟨nm, bs, mro, ns, qn, hdict, sn, sub, ab, col, del⟩ := cd
      dsimp only at hm hd hdel
      subst hm hd hdel
      obtain ⟨l⟩ := sl
      dsimp only at hs
      subst hs
      exact ⟨_, _, _, _, _, _, _, _, _, _, _, _, _, _, _, hk, hv⟩
    · cases h
  · cases h
structure ExFacts (K : PySem.W.Frag) (C : Addr) : Prop where
  oex : OexC K C
  xf : XfC K C
  is_ : ExcC K C
  init : PySem.W.findIn K (.ref C) "__init__" = some (some (.ref (ma K C "__init__")))
  ty : PySem.W.typeIn K (.ref (ma K C "__init__")) = some (.type "function")
def eqV1 (a b : Option Value) : Bool := decide (a = b)
def exB (K : PySem.W.Frag) (C : Addr) : Bool :=
  oexB K C && (eqO (PySem.W.findIn K (.ref C) "__setattr__") (some (some (.builtin "object.__setattr__"))) && (decide (PySem.W.subIn K (.ref C) (.type "BaseException") = some true) && (eqV1 (PySem.W.typeIn K (.ref C)) (some (.type "type")) && (PySem.W.keepIn K (.ref C) &&
  (xfB K C && (eqO (PySem.W.findIn K (.ref C) "__class__") (some (some (.builtin "object.__class__"))) && (eqO (PySem.W.specialIn K (.builtin "object.__class__") "__get__") (some (some (.builtin "getset_descriptor.__get__"))) &&
  (decide (PySem.W.takesIn K (.builtin "object.__class__") = some true) && (decide (PySem.W.mroIn K C (.type "object") = some true) && (eqO (PySem.W.findIn K (.ref C) "__init__") (some (some (.ref (ma K C "__init__")))) && eqV1 (PySem.W.typeIn K (.ref (ma K C "__init__"))) (some (.type "function"))))))))))))
theorem exB_ok {K : PySem.W.Frag} {C : Addr} (h : exB K C = true) : ExFacts K C := by
  obtain ⟨h1, h⟩ := ba h
  obtain ⟨h2, h⟩ := ba h
  obtain ⟨h3, h⟩ := ba h
  obtain ⟨h4, h⟩ := ba h
  obtain ⟨h5, h⟩ := ba h
  obtain ⟨h6, h⟩ := ba h
  obtain ⟨h7, h⟩ := ba h
  obtain ⟨h8, h⟩ := ba h
  obtain ⟨h9, h⟩ := ba h
  obtain ⟨h10, h⟩ := ba h
  obtain ⟨h11, h12⟩ := ba h
  have xf := xfB_ok h6
  exact ⟨⟨oexB_ok h1, eqO_ok h2, of_decide_eq_true h3, of_decide_eq_true h4, h5⟩, xf, ⟨xf.ga, xf.gg, of_decide_eq_true h3, xf.hdC, eqO_ok h7, eqO_ok h8, of_decide_eq_true h9, of_decide_eq_true h10⟩, eqO_ok h11, of_decide_eq_true h12⟩
/-! ### isinstance of such an exception -/
/-- v is an exception of the class at C -/
def ExK (H : Hp) (v : V) (C : Addr) : Prop := ∃ a d, v = .ref a ∧ H a = some (exo a C d) ∧ ∀ dx, d = some dx → ∃ f y, H dx = some (exd dx [(f, y)])
theorem ExAt.k {H : Hp} {v y : V} {C : Addr} {f : Str} (h : ExAt H v C f y) : ExK H v C := by
  obtain ⟨a, dx, e, h1, h2⟩ := h
  exact ⟨a, _, e, h1, fun dx' z => by cases z; exact ⟨f, y, h2⟩⟩
theorem ExAt0.k {H : Hp} {v : V} {C : Addr} (h : ExAt0 H v C) : ExK H v C := by
  obtain ⟨a, e, h1⟩ := h
  exact ⟨a, _, e, h1, fun dx' z => by cases z⟩
theorem ExK.up {H H' : Hp} {v : V} {C : Addr} (s : Same H H') (h : ExK H v C) : ExK H' v C := by
  obtain ⟨a, d, e, h1, h2⟩ := h
  exact ⟨a, d, e, s _ _ h1, fun dx z => let ⟨f, y, q⟩ := h2 dx z; ⟨f, y, s _ _ q⟩⟩
def rIsX (K : PySem.W.Frag) : List V → Hp → VK → Prop := fun xs H Q => ∃ v c C cv b, xs = [v, c] ∧ ExK H v C ∧ ExcC K C ∧ (∀ u, RelV c u → u = cv) ∧ PySem.W.kitOne K (.ref C) cv = some b ∧ Q (.bl b) H
theorem call_isX {X : Cx} {K : PySem.W.Frag} (hK : X.K = K := by rfl) : CallR X (.builtin "isinstance") (rIsX K) := by
  subst hK
  intro pins s σ H xs us Q I r h
  obtain ⟨v, c, C, cv, b, rfl, ⟨a, d, rfl, ha, hdx⟩, T, hcv, e, q⟩ := h
  cases r with
  | cons rx rr =>
    cases rr with
    | cons rt rr =>
      cases rr
      cases rx
      have ec := hcv _ rt
      subst ec
      obtain ⟨t1, ho⟩ := exo_at I.hok ha
      have hcl : (PySem.W.clsIn X.K C).isSome = true := by
        obtain ⟨cd, hc, _⟩ := PySem.W.any_some T.hd
        rw [hc]
        rfl
      have J : ∃ od, PySem.W.InstAt s.heap a { cls := .ref C, dict := d, data := .fields #[.ref t1, .none, .none, .none, .bool false, .none] } C od := by
        cases d with
        | none => exact ⟨none, ho, rfl, rfl, trivial⟩
        | some dx =>
          obtain ⟨f, y, hd⟩ := hdx dx rfl
          obtain ⟨mA, hns, _⟩ := exd_at I.hok hd
          obtain ⟨od, hod, _⟩ := lookIn_ns hns
          exact ⟨some od, ho, rfl, rfl, hod⟩
      obtain ⟨od, J⟩ := J
      exact PySem.W.kia_one (PySem.W.kitx_exc (od := od) hcl T.hg T.hk T.hs T.ha T.hn T.ht T.hm) I.kIn J e (fun z => nomatch z) fun tk => ⟨.bl b, H, I.kept (t' := tk) fun _ _ z => z, rfl, q⟩
end Fh
namespace Fh
open PySem PySem.Spec PyProof.Rows L2 He
/-! ### powers of great ints -/
def CPowB (i j : Int) : Prop := 0 ≤ j ∧ (Builtin.Int.intBits i : Int) * j ≤ 2 ^ 27
theorem op_powB {X : Cx} : OpR X (binaryOp .Pow) (rI CPowB fun i j => .int (i ^ j.toNat)) := opI fun _ _ _ _ _ _ _ hc q => pow_int hc.1 hc.2 q
theorem lt_bits {i : Int} {n : Nat} (h : Builtin.Int.intBits i ≤ n) : i.natAbs < 2 ^ n := by
  by_cases hz : i = 0
  · subst hz
    exact Nat.pow_pos (by decide)
  · have h0 : i.natAbs ≠ 0 := by omega
    have e : Builtin.Int.intBits i = i.natAbs.log2 + 1 := by
      unfold Builtin.Int.intBits
      simp [hz]
    rw [e] at h
    exact (Nat.log2_lt h0).mp (by omega)
/-! ### the tape that a script gives -/
abbrev kDig : Key := .inr "digits"
abbrev kMix : Key := .inr "mixed"
def tapeO (d m : Int) : HO := .dK [(kDig, .int d), (kMix, .int m)]
def TapeAt (H : Hp) (t : Addr) : Prop := ∃ d m : Int, H t = some (tapeO d m) ∧ 0 ≤ d ∧ 0 ≤ m ∧ m < 2147483600
theorem TapeAt.up {H H' : Hp} {t : Addr} (s : Same H H') (h : TapeAt H t) : TapeAt H' t := let ⟨d, m, e, r⟩ := h; ⟨d, m, s _ _ e, r⟩
/-- what a script may be -/
structure Script (K : PySem.W.Frag) (H : Hp) (a : Addr) (ns : List Int) : Prop where
  at_ : SqL K H a (ns.map V.int)
  few : ns.length ≤ 63
  bits : ∀ z ∈ ns, Builtin.Int.intBits z ≤ 1048576
theorem Script.up {K : PySem.W.Frag} {H H' : Hp} {a : Addr} {ns : List Int} (s : Same H H') (h : Script K H a ns) : Script K H' a ns := ⟨s.seq h.at_, h.few, h.bits⟩
def spTape (K : PySem.W.Frag) : Sp := fun vs H Q _ => ∃ (a : Addr) (ns : List Int) (i : Nat), vs = [.ref a, .int (i : Int)] ∧ Script K H a ns ∧ i ≤ 62 ∧ ∀ p H', H p = none → Same H H' → TapeAt H' p → Q (.ref p) H'
theorem tape_num (m c : Int) (hm : 0 ≤ m) (hm2 : m < 2147483600) (hc : Builtin.Int.intBits c ≤ 1048576) : CMulX c c ∧ CPowB (m * 30029 + c * c + 13) 2 := by
  have h1 := lt_bits hc
  refine ⟨mulx_ok h1 h1 (by omega), by decide, ?_⟩
  have h2 : (c * c).natAbs < 2 ^ 2097152 := by
    rw [Int.natAbs_mul, show (2097152 : Nat) = 1048576 + 1048576 by rfl, Nat.pow_add]
    exact Nat.mul_lt_mul'' h1 h1
  have h3 : (m * 30029 + c * c + 13).natAbs < 2 ^ 2097153 := by
    have h4 : (m * 30029 + 13).natAbs < 2 ^ 47 := by omega
    have h5 : (2 : Nat) ^ 47 ≤ 2 ^ 2097152 := Nat.pow_le_pow_right (by decide) (by omega)
    have h6 : (m * 30029 + c * c + 13).natAbs ≤ (m * 30029 + 13).natAbs + (c * c).natAbs := by omega
    rw [show (2097153 : Nat) = 2097152 + 1 by rfl, Nat.pow_succ]
    omega
  have h7 := PyProof.Rows.intBits_le h3
  omega
/-- an item of a list -/
def spOne (K : PySem.W.Frag) : Sp := fun vs H Q _ => ∃ (t a : Addr) (xs : List V), vs = [.ref t, .ref a] ∧ TapeAt H t ∧ SqL K H a xs ∧ 0 < xs.length ∧ xs.length < 1073741824 ∧ (∀ o, SqL K (upd H t o) a xs) ∧ ∀ v d m, v ∈ xs → 0 ≤ d → 0 ≤ m → m < 2147483600 → Q v (upd H t (tapeO d m))
/-- a draw below many: the tape goes on, nothing else changes -/
def spPick : Sp := fun vs H Q _ => ∃ (t : Addr) (n : Nat), vs = [.ref t, .int (n : Int)] ∧ TapeAt H t ∧ 0 < n ∧ n < 1073741824 ∧ ∀ (r : Nat) d m, r < n → 0 ≤ d → 0 ≤ m → m < 2147483600 → Q (.int (r : Int)) (upd H t (tapeO d m))
theorem val_dig {d m : Int} : valV [(kDig, V.int d), (kMix, V.int m)] kDig = some (.int d) := rfl
theorem val_mix {d m : Int} : valV [(kDig, V.int d), (kMix, V.int m)] kMix = some (.int m) := rfl
section
variable {H : Hp} {t : Addr} {d m e : Int}
theorem get_dig (h : H t = some (tapeO d m)) : DGet H t (.str "digits") (some (.int d)) := val_dig ▸ DGet.k (k := kDig) h
theorem get_mix (h : H t = some (tapeO d m)) : DGet H t (.str "mixed") (some (.int m)) := val_mix ▸ DGet.k (k := kMix) h
theorem put_dig (h : H t = some (tapeO d m)) : DPut H t (.str "digits") (.int e) (upd H t (tapeO e m)) := DPut.k (k := kDig) (v := .int e) h (by show 2 < sizeLine; decide)
theorem put_mix (h : H t = some (tapeO d m)) : DPut H t (.str "mixed") (.int e) (upd H t (tapeO d e)) := DPut.k (k := kMix) (v := .int e) h (by show 2 < sizeLine; decide)
end
/-- some data -/
def spAny : Sp := fun vs H Q _ => ∃ (t : Addr), vs = [.ref t] ∧ TapeAt H t ∧ ∀ v d H', DOk d → (∀ b o, b ≠ t → H b = some o → H' b = some o) → Dq H' d v → Q v H'
end Fh
namespace Fh
open PySem PySem.Spec PyProof.Rows L2 He
theorem DqAll.app {H : Hp} : ∀ {ds es : List PyData} {vs us : List V}, DqAll H ds vs → DqAll H es us → DqAll H (ds ++ es) (vs ++ us)
  | [], es, vs, us, h, g => by
    simp only [DqAll] at h
    subst h
    exact g
  | d :: ds, es, vs, us, h, g => by
    simp only [DqAll] at h
    obtain ⟨v, r, rfl, h1, h2⟩ := h
    simp only [List.cons_append, DqAll]
    exact ⟨v, r ++ us, rfl, h1, DqAll.app h2 g⟩
theorem DqAll.mem {H : Hp} : ∀ {ds : List PyData} {vs : List V} {v : V}, DqAll H ds vs → v ∈ vs → ∃ d, d ∈ ds ∧ Dq H d v
  | [], vs, v, h, g => by
    simp only [DqAll] at h
    subst h
    cases g
  | d :: ds, vs, v, h, g => by
    simp only [DqAll] at h
    obtain ⟨u, r, rfl, h1, h2⟩ := h
    rcases List.mem_cons.mp g with rfl | g
    · exact ⟨d, List.mem_cons_self, h1⟩
    · obtain ⟨d', m, q⟩ := DqAll.mem h2 g
      exact ⟨d', List.mem_cons_of_mem _ m, q⟩
def dOkB (d : PyData) : Bool := d.showable && (decide (d.depth ≤ 60) && (decide (d.shown.length ≤ 4096) && PyData.strOk d.shown))
theorem dOkB_ok {d : PyData} (h : dOkB d = true) : DOk d := by
  obtain ⟨h1, h⟩ := ba h
  obtain ⟨h2, h⟩ := ba h
  obtain ⟨h3, h4⟩ := ba h
  exact ⟨h1, of_decide_eq_true h2, Nat.le_trans (of_decide_eq_true h3) (by decide), h4⟩
/-! ### dicts that are written out -/
def pairsT (kds : List (Key × PyData)) : List (TE × TE) := kds.map fun kd => (tC (kV kd.1), tDat kd.2)
def psOf : List (Key × PyData) → List V → List (Key × V)
  | kd :: r, v :: vs => (kd.1, v) :: psOf r vs
  | _, _ => []
theorem pairs_run : ∀ (kds : List (Key × PyData)) (σ : Sto) (H : Hp) (Q : List (V × V) → Hp → Prop),
    (∀ vs H', Same H H' → DqAll (newH H H') (kds.map (·.2)) vs → Q ((psOf kds vs).map fun kv => (kV kv.1, kv.2)) H') → tPairs (pairsT kds) σ H Q
  | [], σ, H, Q, h => h [] H (Same.refl H) (by simp only [List.map_nil, DqAll])
  | kd :: r, σ, H, Q, h => by
    intro v H1 s1 h1
    refine pairs_run r σ H1 _ fun vs H2 s2 h2 => ?_
    refine h (v :: vs) H2 (s1.trans s2) ?_
    simp only [List.map_cons, DqAll]
    exact ⟨v, vs, rfl, Dq.up (newH_r s2) _ _ h1, DqAll.up (newH_l s1) _ _ h2⟩
theorem put_fresh {kvs : List (Key × V)} {k : Key} {v : V} (h : k ∉ kvs.map (·.1)) : putK kvs k v = kvs ++ [(k, v)] := by
  unfold putK
  rw [if_neg]
  intro z
  obtain ⟨p, hp, e⟩ := List.any_eq_true.mp z
  exact h (List.mem_map.mpr ⟨p, hp, of_decide_eq_true e⟩)
theorem merge_nodup : ∀ (more kvs : List (Key × V)), ((kvs ++ more).map (·.1)).Nodup → mergeK kvs more = kvs ++ more
  | [], kvs, _ => by simp [mergeK]
  | p :: r, kvs, h => by
    have h1 : p.1 ∉ kvs.map (·.1) := fun z => by
      rw [List.map_append, List.map_cons, List.nodup_append] at h
      exact h.2.2 _ z _ List.mem_cons_self rfl
    show mergeK (putK kvs p.1 p.2) r = _
    rw [put_fresh h1, merge_nodup r (kvs ++ [(p.1, p.2)]) (by simpa using h)]
    simp
theorem psOf_keys : ∀ (kds : List (Key × PyData)) (vs : List V), vs.length = kds.length → (psOf kds vs).map (·.1) = kds.map fun kd => kd.1
  | [], _, _ => rfl
  | kd :: r, [], h => by cases h
  | kd :: r, v :: vs, h => by
    show kd.1 :: (psOf r vs).map (·.1) = _
    rw [psOf_keys r vs (Nat.succ.inj h)]
    rfl
theorem psOf_dq {H : Hp} : ∀ (kds : List (Key × PyData)) (vs : List V), DqAll H (kds.map (·.2)) vs → DqK H (kds.map fun kd => (keyD kd.1, kd.2)) (psOf kds vs)
  | [], vs, h => by simp only [List.map_nil, DqK]; rfl
  | kd :: r, vs, h => by
    simp only [List.map_cons, DqAll] at h
    obtain ⟨v, q, rfl, h1, h2⟩ := h
    simp only [List.map_cons, DqK]
    exact ⟨kd.1, v, psOf r q, rfl, rfl, h1, psOf_dq r q h2⟩
theorem newH_at {H H2 : Hp} {p : Addr} {o o' : HO} (hp : H p = none) : Same (newH (upd H p o) H2) (newH H (upd H2 p o')) := fun b u e => by
  unfold newH at e ⊢
  by_cases hb : b = p
  · subst hb
    rw [upd_same] at e
    cases e
  · rw [upd_ne hb] at e
    rw [upd_ne hb]
    exact e
section
variable {X : Cx} {pos : Pos}
theorem dat_dict {keys : List (Option Expr)} {values : List Expr} (kds : List (Key × PyData)) (h : PPs X pos keys values (pairsT kds)) (hall : keys.all (·.isSome) = true) (hl : keys.length = values.length) (h0 : keys ≠ []) (h15 : keys.length ≤ 15) (hd : kds.length ≤ 15)
    (nd : (kds.map fun kd => kd.1).Nodup) : PE X (.Dict keys values pos) (tDat (.dict (kds.map fun kd => (keyD kd.1, kd.2)))) := pe_imp (pe_disp h hall hl h0 h15) fun σ H Q q => by
  intro p hp
  refine pairs_run kds σ _ _ fun vs H2 s2 h2 => ?_
  have len := dqAll_len _ _ h2
  rw [List.length_map] at len
  have lp : (psOf kds vs).length = kds.length := by
    have e := congrArg List.length (psOf_keys kds vs len)
    simpa using e
  have s0 : Same H H2 := (same_upd hp).trans s2
  refine ⟨s2 _ _ upd_same, psOf kds vs, rfl, by rw [lp]; exact hd, q _ _ (fun b o e => by rw [upd_ne (ne_of_none e hp)]; exact s0 _ _ e) ?_⟩
  have hm : mergeK [] (psOf kds vs) = psOf kds vs := merge_nodup (psOf kds vs) [] (by rw [List.nil_append, psOf_keys kds vs len]; exact nd)
  rw [hm]
  simp only [Dq]
  exact ⟨p, rfl, .inl ⟨psOf kds vs, by rw [newH_none hp, upd_same], DqK.up (newH_at hp) _ _ (psOf_dq kds vs h2)⟩⟩
/-- {k: v}, k a tuple -/
theorem pe_dispT1 {ek ev : Expr} {tk tv : TE} {k : Nat} (hr : Room k X.A) (hk : PE X ek tk) (hv : PE X ev tv) :
    PE X (.Dict [some ek] [ev] pos) (fun σ H Q => ∀ p, H p = none → tk σ (upd H p (.dT [])) fun x H1 => tv σ H1 fun y H2 => ∃ b ks, x = .ref b ∧ H2 b = some (.tup (ks.map kV)) ∧ H2 p = some (.dT []) ∧ Q (.ref p) (upd H2 p (.dT [(ks, y)]))) := by
  refine ⟨fun pins s σ H Q I q => ?_⟩
  have hn := I.hok.fresh (Nat.le_refl s.heap.objs.size)
  have I1 := I.laid (a := s.heap.objs.size) (o := .dT []) (h' := s.heap.push { cls := .type "dict", data := .dict #[] }) (t' := s.toks) (fun _ _ q => Heap.get?_push_of_some _ q) (Nat.le_refl _) (dt_empty s.heap I.big)
  have hu := hr.units
  have hsh : (evalEachOpt [some ek] X.env).zip ((evalEach [ev] X.env).map fun v => do let x ← v; standAt pos; pure x) = (pairTrees [some ek] [ev] X.env pos).map fun p => (some p.1, p.2) := by rfl
  rw [arm_eval_Dict, hsh, dictDisplay_pairs _ (by intro z; cases z) (by show 1 < 17; decide)]
  refine wpAny_bind (wpAny_standAt (wpAny_bind (wpAny_subDictH (knd := tupleKind (mixKind X.prog X.w)) (Q := fun d s' => wpAny (model X.prog X.w) X.A (pure (Value.ref d)) (EP X pins σ Q) X.xe s') (show X.A.units < cLine by omega) (by show 1 ≤ 15; decide) ?_)))
  refine pairTrees_cons_walk (thn (hk.run pins _ σ _ _ I1 (q _ hn)) fun u s1 h1 => ?_)
  obtain ⟨x, H1, J1, rx, q1⟩ := h1
  refine thn (hv.run pins s1 σ H1 _ J1 q1) fun w2 s2 h2 => pairTrees_nil_walk ?_
  obtain ⟨y, H2, J2, ry, b, ks, rfl, hb, hp, q2⟩ := h2
  cases rx
  obtain ⟨z, hd, xs, rel, dd⟩ := dt_of J2.hok hp
  cases rel
  refine ⟨[(ks, b, w2)], ⟨rfl, rfl, key_of J2.hok hb, trivial⟩, dd, fun h' tk m sb => wpAny_pure ⟨.ref s.heap.objs.size, _, ?_, rfl, q2⟩⟩
  obtain ⟨o, es, ep, ho, e1, e2, e3, _, e5⟩ := m
  have hbp : b ≠ s.heap.objs.size := ne_of hb hp (fun z => nomatch z)
  exact d_write (t' := tk) J2 (by rw [hp]; exact True.intro) sb ⟨o, ho⟩ ⟨by show 1 ≤ sizeLine; decide, hd, [(ks, b, w2)], .cons ⟨rfl, by rw [upd_ne hbp]; exact hb, ry⟩ .nil, o, es, ep, ho, e1, e2, e3, e5⟩
theorem keys_of_dq {H : Hp} : ∀ (ks : List Key) (vs : List V), DqAll H (ks.map keyD) vs → vs = ks.map kV
  | [], vs, h => by simpa only [List.map_nil, DqAll] using h
  | k :: ks, vs, h => by
    simp only [List.map_cons, DqAll] at h
    obtain ⟨v, r, rfl, h1, h2⟩ := h
    rw [List.map_cons, keys_of_dq ks r h2]
    cases k <;> (simp only [keyD, Dq] at h1; rw [h1]; rfl)
theorem dat_dictT {ek ev : Expr} {k : Nat} {ks : List Key} {d : PyData} (hr : Room k X.A) (hk : PE X ek (tDat (.tuple (ks.map keyD)))) (hv : PE X ev (tDat d)) : PE X (.Dict [some ek] [ev] pos) (tDat (.dict [(.tuple (ks.map keyD), d)])) :=
  pe_imp (pe_dispT1 hr hk hv) fun σ H Q q => by
    intro p hp x H1 s1 h1 y H2 s2 h2
    simp only [Dq] at h1
    obtain ⟨b, xs, rfl, hb, hall⟩ := h1
    obtain rfl := keys_of_dq ks xs hall
    have sp := (s1.trans s2) p _ upd_same
    have hb1 : H1 b = some (.tup (ks.map kV)) := newH_up b _ hb
    refine ⟨b, ks, rfl, s2 _ _ hb1, sp, q _ _ (fun a o e => by rw [upd_ne (ne_of_none e hp)]; exact ((same_upd hp).trans (s1.trans s2)) _ _ e) ?_⟩
    simp only [Dq]
    refine ⟨p, rfl, .inr ⟨[(ks, y)], by rw [newH_none hp, upd_same], ?_⟩⟩
    simp only [DqT]
    exact ⟨ks, y, [], rfl, rfl, Dq.up ((newH_l s1).trans (newH_at hp)) _ _ h2, rfl⟩
end
end Fh
namespace Fh
open PySem PySem.Spec PyProof.Rows L2 He
section
variable {P : Program} {w : World} {K : PySem.W.Frag} {mg : Str → Option Value} {base : Heap}
theorem vis_of {N ps : List Str} {sc : Scope} (S : FnScope N ps sc) {x : Str} (h : x ∈ ps) : Vis sc x := (S.par x h).elim Or.inl fun e => Or.inr (Or.inl e)
/-- def __init__(self, f): self.f = f -/
theorem ok_initF {qual f : Str} {pa : Arguments} {bd : List Stmt} {sc : Scope} {C fI : Addr} {fd : FuncData} {q1 q2 q3 q4 : Pos} (F : FunD K "__init__" qual pa bd sc [] [] fI fd) (S : FnScope ["self", f] ["self", f] sc) (hb : bd = [.Assign [.Attribute (.Name "self" q1) f q2] (.Name f q3) q4])
    (h1 : (f == ("__debug__" : Str)) = false) (h2 : (f == ("__classdict__" : Str)) = false) : FnOk P w K mg base CX0 1 fI fd ["self", f] (spXi K C f) := by
  refine F.ok S (fun vs H Q E h => ?_) (fun cdv A outer s H vs Q E hr h => ?_)
  · obtain ⟨a, y, rfl, _⟩ := h
    rfl
  · obtain ⟨a, y, rfl, T, hf, ha, hQ⟩ := h
    subst hb
    refine ⟨_, PSs.nox (pss_one (ps_ost (pe_var (i := 0) rfl (vis_of S List.mem_cons_self)) (pe_var (i := 1) rfl (vis_of S (List.mem_cons_of_mem _ List.mem_cons_self)) h1 h2))), ?_⟩
    exact ⟨_, rfl, _, rfl, a, C, rfl, T, hf, .inl ⟨ha, fun dx hd hne => hQ dx hd hne⟩⟩
/-- def __init__(self): pass -/
theorem ok_init0 {qual : Str} {pa : Arguments} {bd : List Stmt} {sc : Scope} {fI : Addr} {fd : FuncData} {q1 : Pos} (F : FunD K "__init__" qual pa bd sc [] [] fI fd) (S : FnScope ["self"] ["self"] sc) (hb : bd = [.Pass q1]) : FnOk P w K mg base CX0 1 fI fd ["self"] spXo := by
  refine F.ok S (fun vs H Q E h => ?_) (fun cdv A outer s H vs Q E hr h => ?_)
  · obtain ⟨a, rfl, _⟩ := h
    rfl
  · obtain ⟨a, rfl, hQ⟩ := h
    subst hb
    exact ⟨_, PSs.nox (pss_one ps_pass), hQ⟩
end
/-! ### lists of such exceptions -/
/-- vs are exceptions of these classes, these fields holding y -/
def XAll (H : Hp) (y : V) : List (Addr × Str) → List V → Prop
  | [], vs => vs = []
  | c :: cs, vs => ∃ v r, vs = v :: r ∧ ExAt H v c.1 c.2 y ∧ XAll H y cs r
theorem XAll.up {H H' : Hp} {y : V} (s : Same H H') : ∀ {cs : List (Addr × Str)} {vs : List V}, XAll H y cs vs → XAll H' y cs vs
  | [], _, h => h
  | _ :: _, _, ⟨v, r, e, h1, h2⟩ => ⟨v, r, e, h1.up s, h2.up s⟩
theorem XAll.app {H : Hp} {y : V} : ∀ {cs ds : List (Addr × Str)} {vs us : List V}, XAll H y cs vs → XAll H y ds us → XAll H y (cs ++ ds) (vs ++ us)
  | [], _, _, _, h, g => by
    have e : _ = [] := h
    subst e
    exact g
  | _ :: _, _, _, us, ⟨v, r, e, h1, h2⟩, g => ⟨v, r ++ us, by rw [e]; rfl, h1, h2.app g⟩
theorem XAll.len {H : Hp} {y : V} : ∀ {cs : List (Addr × Str)} {vs : List V}, XAll H y cs vs → vs.length = cs.length
  | [], _, h => by
    have e : _ = [] := h
    rw [e]
    rfl
  | _ :: _, _, ⟨v, r, e, _, h2⟩ => by rw [e, List.length_cons, List.length_cons, h2.len]
theorem XAll.get {H : Hp} {y : V} : ∀ {cs : List (Addr × Str)} {vs : List V} {i : Nat} {v : V}, XAll H y cs vs → vs[i]? = some v → ∃ c, cs[i]? = some c ∧ ExAt H v c.1 c.2 y
  | [], _, i, v, h, g => by
    have e : _ = [] := h
    rw [e] at g
    cases g
  | c :: cs, _, 0, v, ⟨u, r, e, h1, h2⟩, g => by
    rw [e] at g
    cases g
    exact ⟨c, rfl, h1⟩
  | c :: cs, _, i + 1, v, ⟨u, r, e, h1, h2⟩, g => by
    rw [e] at g
    exact XAll.get (i := i) h2 g
/-- the arguments: exceptions of these classes with what the slot i holds -/
def tXs (i : Nat) (cs : List (Addr × Str)) : TA := fun σ H Q => ∃ y, σ[i]? = some (some y) ∧ ∀ vs H', Same H H' → XAll H' y cs vs → Q vs H'
section
variable {X : Cx} {e : Expr} {es : List Expr} {i : Nat} {C : Addr} {f : Str} {cs : List (Addr × Str)}
theorem pax_nil : PA X [] (tXs i []) := pa_imp pa_nil fun σ H Q ⟨y, _, q⟩ => q [] H (Same.refl H) rfl
theorem pax_cons (h : PE X e (tEx C f (tVar i))) (hs : PA X es (tXs i cs)) (hst : starEach (e :: es) X.env = (false, eval e X.env) :: starEach es X.env := by rfl) : PA X (e :: es) (tXs i ((C, f) :: cs)) :=
  pa_imp (pa_cons h hs hst) fun σ H Q ⟨y, hy, q⟩ => ⟨y, hy, fun v H1 s1 h1 => ⟨y, hy, fun vs H2 s2 h2 => q (v :: vs) H2 (s1.trans s2) ⟨v, vs, rfl, h1.up s2, h2⟩⟩⟩
end
end Fh
namespace Fh
open PySem PySem.Spec PyProof.Rows L2 He
/-- an own exception class x with def __init__(self, f): self.f = f -/
structure Cl (P : Program) (w : World) (K : PySem.W.Frag) (mg : Str → Option Value) (base : Heap) (x f : Str) : Prop where
  ex : ExFacts K (ga K x)
  no : PySem.W.findIn K (.ref (ga K x)) f = some none
  at_ : mg x = some (.ref (ga K x))
  fn : ∃ fd, FnOk P w K mg base CX0 1 (ma K (ga K x) "__init__") fd ["self", f] (spXi K (ga K x) f) ∧ (∀ (s : Shared) (a u : Value), BindsTo s fd ⟨[a, u], []⟩ [("self", a), (f, u)]) ∧ ∀ (s : Shared) (a u : Value), BindsTo s fd ⟨[a], [(f, u)]⟩ [("self", a), (f, u)]
theorem cl_mk {P : Program} {w : World} {K : PySem.W.Frag} {mg : Str → Option Value} {base : Heap} {x f qual : Str} {pa : Arguments} {bd : List Stmt} {sc : Scope} {fd : FuncData} {q1 q2 q3 q4 : Pos} (F : FunD K "__init__" qual pa bd sc [] [] (ma K (ga K x) "__init__") fd)
    (S : FnScope ["self", f] ["self", f] sc) (hb : bd = [.Assign [.Attribute (.Name "self" q1) f q2] (.Name f q3) q4]) (h1 : (f == ("__debug__" : Str)) = false) (h2 : (f == ("__classdict__" : Str)) = false) (he : exB K (ga K x) = true) (hn : (Fa.noat x f).ok K = true) (hm : mg x = some (.ref (ga K x)))
    (b1 : ∀ (kV doc pm : Value) (an : Option Addr) (cdv ct : Value) (a u : Value), bindArgs (PySem.W.fnOf "__init__" qual pa bd sc .none kV doc pm an cdv ct) ⟨[a, u], []⟩ = pure ([("self", a), (f, u)] : List (Str × Value)))
    (b2 : ∀ (kV doc pm : Value) (an : Option Addr) (cdv ct : Value) (a u : Value), bindArgs (PySem.W.fnOf "__init__" qual pa bd sc .none kV doc pm an cdv ct) ⟨[a], [(f, u)]⟩ = pure ([("self", a), (f, u)] : List (Str × Value))) : Cl P w K mg base x f := by
  refine ⟨exB_ok he, eqO_ok hn, hm, fd, ok_initF F S hb h1 h2, ?_, ?_⟩
  all_goals
    obtain ⟨oc, od, dV, kV, doc, pm, an, cdv, ct, osl, rfl, lk, hcd, hD, hK⟩ := F.ex
    rcases hD with ⟨e, rfl⟩ | ⟨z, _⟩
    · intro s a u
      first
        | exact BindsTo.of_eq (b1 kV doc pm an cdv ct a u)
        | exact BindsTo.of_eq (b2 kV doc pm an cdv ct a u)
    · exact absurd rfl z
section
variable {X : Cx} {x f : Str} {e : Expr} {te : TE} {p pos kp : Pos}
theorem pe_cl (c : Cl X.prog X.w X.K X.mg X.base x f) (hr : Room 2 X.A) (hg : Gl X x) (he : PE X e te) (hdb : (x == ("__debug__" : Str)) = false := by decide) (hst : starEach [e] X.env = (false, eval e X.env) :: starEach [] X.env := by rfl) (hpl : (backTo pos (starEach [] X.env)).any (·.1) = false := by rfl) :
    PE X (.Call (.Name x p) [e] [] pos) (tEx (ga X.K x) f te) := by
  obtain ⟨fd, F, b, _⟩ := c.fn
  exact pe_ex c.ex.oex c.no c.ex.init c.ex.ty F hr b pass0 hg c.at_ he hdb hst hpl
theorem pe_clK (c : Cl X.prog X.w X.K X.mg X.base x f) (hr : Room 2 X.A) (hg : Gl X x) (he : PE X e te) (hdb : (x == ("__debug__" : Str)) = false := by decide)
    (hall : (backToKw pos (keywordEach [⟨some f, e, kp⟩] X.env)).all (·.1.isSome) = true := by rfl) (hks : (backToKw pos (keywordEach [⟨some f, e, kp⟩] X.env)).filterMap (·.1) = [f] := by rfl)
    (hpl : ((backTo pos (starEach [] X.env)).any (·.1) || (backToKw pos (keywordEach [⟨some f, e, kp⟩] X.env)).any (·.1.isNone)) = false := by rfl) : PE X (.Call (.Name x p) [] [⟨some f, e, kp⟩] pos) (tEx (ga X.K x) f te) := by
  obtain ⟨fd, F, _, b⟩ := c.fn
  exact pe_exK c.ex.oex c.no c.ex.init c.ex.ty F hr b pass0 hg c.at_ he hdb hall hks hpl
end
/-- a list of exceptions that is grown -/
def spXs (cs : List (Addr × Str)) : Sp := fun vs H Q _ => ∃ y, vs = [y] ∧ ∀ p xs H', Same H H' → H p = none → H' p = some (.lst xs) → XAll H' y cs xs → Q (.ref p) H'
theorem xs_new {D : Ends} {y : V} {o : Option V} {cs : List (Addr × Str)} {H : Hp} {rest : TS} (hz : cs.length ≤ 1000) (h : ∀ p xs H', Same H H' → H p = none → H' p = some (.lst xs) → XAll H' y cs xs → rest D [some y, some (.ref p)] H') :
    tSeq (tAsg (tLst (tXs 0 cs)) (gName 1)) rest D [some y, o] H := by
  refine ⟨y, rfl, fun vs H1 s1 h1 => ⟨by rw [h1.len]; exact Nat.le_trans hz (by decide), fun p hp => ?_⟩⟩
  exact h p vs _ (s1.trans (same_upd hp)) (s1.free hp) upd_same (h1.up (same_upd hp))
theorem xs_more {D : Ends} {y : V} {l : Addr} {zs : List V} {cs ds : List (Addr × Str)} {H : Hp} {rest : TS} (hl : H l = some (.lst zs)) (hx : XAll H y cs zs) (hz : cs.length + ds.length ≤ 1000)
    (h : ∀ p xs H', Same H H' → H p = none → H' p = some (.lst xs) → XAll H' y (cs ++ ds) xs → rest D [some y, some (.ref p)] H') :
    tSeq (tAsg (tOp rCat (tVar 1) (tLst (tXs 0 ds))) (gName 1)) rest D [some y, some (.ref l)] H := by
  refine ⟨_, rfl, y, rfl, fun vs H1 s1 h1 => ⟨by rw [h1.len]; exact Nat.le_trans (Nat.le_trans (Nat.le_add_left _ _) hz) (by decide), fun q hq => ?_⟩⟩
  have n1 := hx.len
  have n2 := h1.len
  refine ⟨l, q, zs, vs, rfl, rfl, same_upd hq _ _ (s1 _ _ hl), upd_same, by rw [n1, n2]; exact Nat.le_trans hz (by decide), fun p hp => ?_⟩
  have sa := s1.trans ((same_upd (o := .lst vs) hq).trans (same_upd (o := .lst (zs ++ vs)) hp))
  exact h p _ _ sa ((s1.trans (same_upd (o := .lst vs) hq)).free hp) upd_same ((hx.up sa).app (h1.up ((same_upd hq).trans (same_upd hp))))
theorem xs_ret {Q : VK} {y : V} {l : Addr} {zs : List V} {cs ds : List (Addr × Str)} {H : Hp} (hl : H l = some (.lst zs)) (hx : XAll H y cs zs) (hz : cs.length + ds.length ≤ 1000)
    (h : ∀ p xs H', Same H H' → H p = none → H' p = some (.lst xs) → XAll H' y (cs ++ ds) xs → Q (.ref p) H') :
    tRet (tOp rCat (tVar 1) (tLst (tXs 0 ds))) { nx := fun _ H' => Q .non H', rt := Q } [some y, some (.ref l)] H := by
  refine ⟨_, rfl, y, rfl, fun vs H1 s1 h1 => ⟨by rw [h1.len]; exact Nat.le_trans (Nat.le_trans (Nat.le_add_left _ _) hz) (by decide), fun q hq => ?_⟩⟩
  have n1 := hx.len
  have n2 := h1.len
  refine ⟨l, q, zs, vs, rfl, rfl, same_upd hq _ _ (s1 _ _ hl), upd_same, by rw [n1, n2]; exact Nat.le_trans hz (by decide), fun p hp => ?_⟩
  have sa := s1.trans ((same_upd (o := .lst vs) hq).trans (same_upd (o := .lst (zs ++ vs)) hp))
  exact h p _ _ sa ((s1.trans (same_upd (o := .lst vs) hq)).free hp) upd_same ((hx.up sa).app (h1.up ((same_upd hq).trans (same_upd hp))))
end Fh
namespace Fh
open PySem PySem.Spec PyProof.Rows L2 He
/-- the exception class whose __init__ takes nothing -/
structure Cl0 (P : Program) (w : World) (K : PySem.W.Frag) (mg : Str → Option Value) (base : Heap) (x : Str) : Prop where
  ex : ExFacts K (ga K x)
  at_ : mg x = some (.ref (ga K x))
  fn : ∃ fd, FnOk P w K mg base CX0 1 (ma K (ga K x) "__init__") fd ["self"] spXo ∧ ∀ (s : Shared) (a : Value), BindsTo s fd ⟨[a], []⟩ [("self", a)]
theorem cl0_mk {P : Program} {w : World} {K : PySem.W.Frag} {mg : Str → Option Value} {base : Heap} {x qual : Str} {pa : Arguments} {bd : List Stmt} {sc : Scope} {fd : FuncData} {q1 : Pos} (F : FunD K "__init__" qual pa bd sc [] [] (ma K (ga K x) "__init__") fd)
    (S : FnScope ["self"] ["self"] sc) (hb : bd = [.Pass q1]) (he : exB K (ga K x) = true) (hm : mg x = some (.ref (ga K x)))
    (b1 : ∀ (kV doc pm : Value) (an : Option Addr) (cdv ct : Value) (a : Value), bindArgs (PySem.W.fnOf "__init__" qual pa bd sc .none kV doc pm an cdv ct) ⟨[a], []⟩ = pure ([("self", a)] : List (Str × Value))) : Cl0 P w K mg base x := by
  refine ⟨exB_ok he, hm, fd, ok_init0 F S hb, ?_⟩
  obtain ⟨oc, od, dV, kV, doc, pm, an, cdv, ct, osl, rfl, lk, hcd, hD, hK⟩ := F.ex
  rcases hD with ⟨e, rfl⟩ | ⟨z, _⟩
  · exact fun s a => BindsTo.of_eq (b1 kV doc pm an cdv ct a)
  · exact absurd rfl z
theorem pe_cl0 {X : Cx} {x : Str} {p pos : Pos} (c : Cl0 X.prog X.w X.K X.mg X.base x) (hr : Room 2 X.A) (hg : Gl X x) (hdb : (x == ("__debug__" : Str)) = false := by decide) : PE X (.Call (.Name x p) [] [] pos) (fun σ H Q => ∀ v H', Same H H' → ExAt0 H' v (ga X.K x) → Q v H') := by
  obtain ⟨fd, F, b⟩ := c.fn
  exact pe_ex0 c.ex.oex c.ex.init c.ex.ty F hr b pass0 hg c.at_ hdb
/-! ### lists of isinstance -/
def tIs1 (K : PySem.W.Frag) (i : Nat) (D : Addr) : TE := tCB (rIsX K) (tCons (tVar i) (tCons (tC (.ref D)) tNil))
/-- the kind of the exception at C, asked for each of the classes -/
structure Kits (K : PySem.W.Frag) (C : Addr) (kb : Str → Bool) (names : List Str) : Prop where
  is_ : ExcC K C
  all : ∀ x ∈ names, PySem.W.kitOne K (.ref C) (.ref (ga K x)) = some (kb x)
def tKs (K : PySem.W.Frag) (i : Nat) (names : List Str) : TA := fun σ H Q => ∃ v C kb, σ[i]? = some (some v) ∧ ExK H v C ∧ Kits K C kb names ∧ Q (names.map fun x => .bl (kb x)) H
section
variable {X : Cx} {e : Expr} {es : List Expr} {i : Nat} {x : Str} {names : List Str}
theorem pak_nil : PA X [] (tKs X.K i []) := pa_imp pa_nil fun σ H Q ⟨v, C, kb, _, _, _, q⟩ => q
theorem pak_cons (h : PE X e (tIs1 X.K i (ga X.K x))) (hs : PA X es (tKs X.K i names)) (hst : starEach (e :: es) X.env = (false, eval e X.env) :: starEach es X.env := by rfl) : PA X (e :: es) (tKs X.K i (x :: names)) :=
  pa_imp (pa_cons h hs hst) fun σ H Q ⟨v, C, kb, hv, hx, hk, q⟩ => ⟨v, hv, v, _, C, .ref (ga X.K x), kb x, rfl, hx, hk.is_, fun u hu => hu, hk.all x List.mem_cons_self, v, C, kb, hv, hx, ⟨hk.is_, fun y hy => hk.all y (List.mem_cons_of_mem _ hy)⟩, q⟩
end
/-- a list of kinds -/
def spKits (K : PySem.W.Frag) (names : List Str) : Sp := fun vs H Q _ => ∃ v C kb, vs = [v] ∧ ExK H v C ∧ Kits K C kb names ∧ ∀ p H', Same H H' → H p = none → H' p = some (.lst (names.map fun x => .bl (kb x))) → Q (.ref p) H'
theorem Kits.sub {K : PySem.W.Frag} {C : Addr} {kb : Str → Bool} {ns ms : List Str} (h : Kits K C kb ns) (s : ∀ x ∈ ms, x ∈ ns) : Kits K C kb ms := ⟨h.is_, fun x hx => h.all x (s x hx)⟩
theorem ks_new {K : PySem.W.Frag} {D : Ends} {v : V} {o : Option V} {C : Addr} {kb : Str → Bool} {ns : List Str} {H : Hp} {rest : TS} (hx : ExK H v C) (hk : Kits K C kb ns) (hz : ns.length ≤ 1000)
    (h : ∀ p H', Same H H' → H p = none → H' p = some (.lst (ns.map fun x => .bl (kb x))) → rest D [some v, some (.ref p)] H') : tSeq (tAsg (tLst (tKs K 0 ns)) (gName 1)) rest D [some v, o] H :=
  ⟨v, C, kb, rfl, hx, hk, by rw [List.length_map]; exact Nat.le_trans hz (by decide), fun p hp => h p _ (same_upd hp) hp upd_same⟩
theorem ks_more {K : PySem.W.Frag} {D : Ends} {v : V} {l : Addr} {C : Addr} {kb : Str → Bool} {ms ns : List Str} {H : Hp} {rest : TS} (hl : H l = some (.lst (ms.map fun x => .bl (kb x)))) (hx : ExK H v C) (hk : Kits K C kb ns) (hz : ms.length + ns.length ≤ 1000)
    (h : ∀ p H', Same H H' → H p = none → H' p = some (.lst ((ms ++ ns).map fun x => .bl (kb x))) → rest D [some v, some (.ref p)] H') : tSeq (tAsg (tOp rCat (tVar 1) (tLst (tKs K 0 ns))) (gName 1)) rest D [some v, some (.ref l)] H := by
  refine ⟨_, rfl, v, C, kb, rfl, hx, hk, by rw [List.length_map]; exact Nat.le_trans (Nat.le_trans (Nat.le_add_left _ _) hz) (by decide), fun q hq => ?_⟩
  refine ⟨l, q, _, _, rfl, rfl, same_upd hq _ _ hl, upd_same, by rw [List.length_map, List.length_map]; exact Nat.le_trans hz (by decide), fun p hp => ?_⟩
  exact h p _ ((same_upd hq).trans (same_upd hp)) ((same_upd hq).free hp) (by rw [List.map_append]; exact upd_same)
theorem ks_ret {K : PySem.W.Frag} {Q : VK} {v : V} {l : Addr} {C : Addr} {kb : Str → Bool} {ms ns : List Str} {H : Hp} (hl : H l = some (.lst (ms.map fun x => .bl (kb x)))) (hx : ExK H v C) (hk : Kits K C kb ns) (hz : ms.length + ns.length ≤ 1000)
    (h : ∀ p H', Same H H' → H p = none → H' p = some (.lst ((ms ++ ns).map fun x => .bl (kb x))) → Q (.ref p) H') : tRet (tOp rCat (tVar 1) (tLst (tKs K 0 ns))) { nx := fun _ H' => Q .non H', rt := Q } [some v, some (.ref l)] H := by
  refine ⟨_, rfl, v, C, kb, rfl, hx, hk, by rw [List.length_map]; exact Nat.le_trans (Nat.le_trans (Nat.le_add_left _ _) hz) (by decide), fun q hq => ?_⟩
  refine ⟨l, q, _, _, rfl, rfl, same_upd hq _ _ hl, upd_same, by rw [List.length_map, List.length_map]; exact Nat.le_trans hz (by decide), fun p hp => ?_⟩
  exact h p _ ((same_upd hq).trans (same_upd hp)) ((same_upd hq).free hp) (by rw [List.map_append]; exact upd_same)
end Fh
namespace Fh
open PySem PySem.Spec PyProof.Rows L2 He
/-! ### comprehensions over a list: one name, no test -/
/-- the loop of such a comprehension, as its reading asks for it -/
abbrev LcGoal (K : PySem.W.Frag) (a : Addr) (i : Nat) (te : TE) (σ : Sto) (H1 : Hp) (D : Addr) (Qd : Hp → Prop) : Prop :=
  ∃ W : Nat → Nat → Hp → Prop, (∃ m, W 0 m (upd H1 D (.lst []))) ∧ ∀ j m H, W j m H → ((Itl K a).stop j H ∧ Qd H) ∨ ((Itl K a).go j H ∧ ∃ Nx : Hp → Prop, (∀ H', Nx H' → ∃ m', m' < m ∧ W (j + 1) m' H') ∧ ∀ x H', (Itl K a).yld j H x H' →
    gName i x (wipe σ [i]) H' fun σ2 H2 => wipe σ2 [i] = wipe σ [i] ∧ tYes σ2 H2 fun b H3 => if b = true then te σ2 H3 fun y H4 => ∃ acc, H4 D = some (.lst acc) ∧ acc.length < sizeLine ∧ Nx (upd H4 D (.lst (acc ++ [y]))) else Nx H3)
theorem wipe_one (σ : Sto) (i : Nat) (x : Option V) : wipe ((wipe σ [i]).set i x) [i] = wipe σ [i] := by
  show ((σ.set i none).set i x).set i none = σ.set i none
  rw [List.set_set, List.set_set]
theorem same_updX {H1 H : Hp} {D : Addr} {o : HO} (s : Same H1 H) (hD : H1 D = none) : Same H1 (upd H D o) := fun b u e => by
  rw [upd_ne (ne_of_none e hD)]
  exact s b u e
section
variable {K : PySem.W.Frag} {a : Addr} {xs : List V} {i : Nat} {te : TE} {σ : Sto} {H1 : Hp} {D : Addr} {Qd : Hp → Prop}
theorem lc_flat (ys : List V) (hn : ys.length = xs.length) (hz : xs.length ≤ 100000) (hS : SqL K H1 a xs) (hD : H1 D = none)
    (hel : ∀ (j : Nat) x y H (Q : VK), xs[j]? = some x → ys[j]? = some y → Same H1 H → (∀ H', Same H H' → Q y H') → te ((wipe σ [i]).set i (some x)) H Q)
    (hd : ∀ H, Same H1 H → H D = some (.lst ys) → Qd H) : LcGoal K a i te σ H1 D Qd := by
  refine lc_list (K := K) (a := a) (xs := xs) (fun j H => Same H1 H ∧ H D = some (.lst (ys.take j))) ⟨same_upd hD, upd_same⟩ (fun _ H _ h => h.1.seq hS) ?_ ?_
  · rintro j x H hx ⟨s, hDl⟩
    have hj : j < xs.length := (List.getElem?_eq_some_iff.mp hx).1
    have hy : ys[j]? = some (ys[j]'(by omega)) := List.getElem?_eq_getElem (by omega)
    refine ⟨wipe_one σ i _, ?_⟩
    show te ((wipe σ [i]).set i (some x)) H _
    refine hel j x _ H _ hx hy s fun H' s' => ?_
    refine ⟨ys.take j, s' _ _ hDl, ?_, same_updX (s.trans s') hD, ?_⟩
    · rw [List.length_take, sizeLine_eq]
      omega
    · rw [upd_same, List.take_add_one, hy]
      rfl
  · rintro H ⟨s, hDl⟩
    refine hd H s ?_
    rw [hDl, ← hn, List.take_length]
/-- each item a new list of data -/
theorem lc_lists (zs : List (List V)) (hn : zs.length = xs.length) (hz : xs.length ≤ 100000) (hS : SqL K H1 a xs) (hD : H1 D = none)
    (hel : ∀ (j : Nat) x z H (Q : VK), xs[j]? = some x → zs[j]? = some z → Same H1 H → (∀ p H', Same H H' → H p = none → H' p = some (.lst z) → Q (.ref p) H') → te ((wipe σ [i]).set i (some x)) H Q)
    (hd : ∀ H ps, Same H1 H → H D = some (.lst ps) → ps.length = zs.length → (∀ (j : Nat) z, zs[j]? = some z → ∃ p, ps[j]? = some (.ref p) ∧ H p = some (.lst z)) → Qd H) : LcGoal K a i te σ H1 D Qd := by
  refine lc_list (K := K) (a := a) (xs := xs) (fun j H => Same H1 H ∧ ∃ ps, H D = some (.lst ps) ∧ ps.length = j ∧ ∀ (k : Nat) z, k < j → zs[k]? = some z → ∃ p, ps[k]? = some (.ref p) ∧ p ≠ D ∧ H p = some (.lst z)) ⟨same_upd hD, [], upd_same, rfl, fun k z h => absurd h (Nat.not_lt_zero k)⟩ (fun _ H _ h => h.1.seq hS) ?_ ?_
  · rintro j x H hx ⟨s, ps, hDl, hl, hps⟩
    have hj : j < xs.length := (List.getElem?_eq_some_iff.mp hx).1
    have hy : zs[j]? = some (zs[j]'(by omega)) := List.getElem?_eq_getElem (by omega)
    refine ⟨wipe_one σ i _, ?_⟩
    show te ((wipe σ [i]).set i (some x)) H _
    refine hel j x _ H _ hx hy s fun p H' s' hp hp' => ?_
    refine ⟨ps, s' _ _ hDl, by rw [hl, sizeLine_eq]; omega, same_updX (s.trans s') hD, ps ++ [.ref p], upd_same, by rw [List.length_append, hl]; rfl, fun k z hk hz => ?_⟩
    have npD : p ≠ D := fun e => by
      rw [e, hDl] at hp
      cases hp
    by_cases hkj : k < j
    · obtain ⟨q, e1, e2, e3⟩ := hps k z hkj hz
      exact ⟨q, by rw [List.getElem?_append_left (by omega)]; exact e1, e2, by rw [upd_ne e2]; exact s' _ _ e3⟩
    · have hkj' : k = j := by omega
      subst hkj'
      rw [hy] at hz
      cases hz
      exact ⟨p, by rw [List.getElem?_append_right (by omega), hl, Nat.sub_self]; rfl, npD, by rw [upd_ne npD]; exact hp'⟩
  · rintro H ⟨s, ps, hDl, hl, hps⟩
    refine hd H ps s hDl (by rw [hl, hn]) fun k z hz => ?_
    have hk : k < zs.length := (List.getElem?_eq_some_iff.mp hz).1
    obtain ⟨q, e1, _, e3⟩ := hps k z (by omega) hz
    exact ⟨q, e1, e3⟩
end
/-! ### every second item -/
def pickV (is : List Nat) {α : Type} (xs : List α) : List α := is.filterMap (xs[·]?)
theorem pick_vals {xs : List V} {us : List Value} (r : Vals xs us) : ∀ is : List Nat, Vals (pickV is xs) (pickV is us)
  | [] => .nil
  | i :: is => by
    have ih := pick_vals r is
    unfold pickV at ih ⊢
    rw [List.filterMap_cons, List.filterMap_cons]
    cases e : xs[i]? with
    | none => rw [r.none_of e]; exact ih
    | some x =>
      obtain ⟨u, hu, ru⟩ := r.get e
      rw [hu]
      exact .cons ru ih
def tStep2 (K : PySem.W.Frag) (te : TE) : TE := fun σ H Q => te σ H fun x H1 => ∃ a xs, x = .ref a ∧ SqL K H1 a xs ∧ ∀ p, H1 p = none → Q (.ref p) (upd H1 p (.lst (pickV (sliceRange 0 xs.length 2) xs)))
theorem pe_step2 {X : Cx} {e : Expr} {te : TE} {k : Nat} {p1 p3 pos : Pos} (he : PE X e te) : PE X (.Subscript e (.Slice none none (some (.Constant (.int 2) k p1)) p3) pos) (tStep2 X.K te) := by
  refine ⟨fun pins s σ H Q I h => ?_⟩
  refine Subscript_ (thn (he.run pins s σ H _ I h) fun v s1 hh => ?_)
  obtain ⟨x, H1, I1, r1, a, xs, ex, hx, q⟩ := hh
  subst ex
  cases r1
  refine wpAny_Slice (thn (po_none.run pins s1 σ H1 (fun o H2 => o = none ∧ H2 = H1) I1 ⟨rfl, rfl⟩) fun vl s2 h2 => ?_)
  obtain ⟨l, H2, I2, pl, el, e2⟩ := h2
  subst el e2
  refine thn (po_none.run pins s2 σ H2 (fun o H3 => o = none ∧ H3 = H2) I2 ⟨rfl, rfl⟩) fun vu s3 h3 => ?_
  obtain ⟨u, H3, I3, pu, eu, e3⟩ := h3
  subst eu e3
  refine thn ((po_some (pe_int (X := X) (i := 2) (j := k) (pos := p1))).run pins s3 σ H3 (fun o H4 => o = some 2 ∧ H4 = H3) I3 ⟨2, rfl, rfl, rfl⟩) fun vs s4 h4 => ?_
  obtain ⟨o, H4, I4, ps, eo, e4⟩ := h4
  subst eo e4
  have I5 : Inv X pins σ H4 { s4 with heap := s4.heap.push { cls := .type "slice", data := .fields #[vl, vu, vs] } } := I4.kept (t' := s4.toks) fun b ob q => Heap.get?_push_of_some _ q
  obtain ⟨its, r, ht, hz⟩ := I5.list hx
  have hlen := r.length
  show wpAny (model X.prog X.w) X.A (subscriptTail e (.Slice none none (some (.Constant (.int 2) k p1)) p3) (.ref a) (.ref s4.heap.objs.size)) (EP X pins σ Q) X.xe { s4 with heap := s4.heap.push { cls := .type "slice", data := .fields #[vl, vu, vs] } }
  refine tail_any (ops := [.ref a, .ref s4.heap.objs.size]) ht.isList.typeIs (PySem.slot_list_getitem.lookup) ?_ (by with_unfolding_all rfl)
  refine wpAny_getItem_list_slice ht.isList (Heap.IsSliceOf.new _ vl vu vs) pl pu ps (by decide) ?_ (by rw [List.size_toArray]; omega)
  have ep : slicePick its.toArray none none (some 2) = (pickV (sliceRange 0 xs.length 2) its).toArray := by
    unfold slicePick pickV
    rw [List.size_toArray, ← hlen]
    show ((sliceRange 0 (xs.length : Int) 2).filterMap fun j => its.toArray[j]?).toArray = _
    simp only [List.getElem?_toArray]
  rw [ep]
  have rp := pick_vals r (sliceRange 0 xs.length 2)
  have lp : (pickV (sliceRange 0 xs.length 2) xs).length ≤ sizeLine := by
    refine Nat.le_trans (List.length_filterMap_le _ _) (Nat.le_trans ?_ hz)
    unfold sliceRange
    rw [List.length_map, List.length_range]
    show (if (2 : Int) > 0 then (if (0 : Int) < xs.length then ((xs.length : Int) - 0 + 2 - 1) / 2 else 0) else _ : Int).toNat ≤ xs.length
    rw [if_pos (by decide)]
    split <;> omega
  refine ⟨.ref _, _, I5.laid (t' := s4.toks) (o := .lst (pickV (sliceRange 0 xs.length 2) xs)) (fun b ob q => Heap.get?_push_of_some _ q) (Nat.le_refl _) ?_, rfl, q _ (I5.hok.fresh (Nat.le_refl _))⟩
  exact ⟨lp, _, 0, rp, Heap.get?_push_size _ rfl⟩
end Fh
namespace Fh
open PySem PySem.Spec PyProof.Rows PySem.W L2 He
/-! ### the law's call, repr at rest -/
theorem lawG {P : Program} {w : World} {K : PySem.W.Frag} {mg mb : Str → Option Value} {k : Nat} {fa a : Addr} {fd : FuncData} {x : Str} {sp : Sp} {s1 : Shared} {vs : List Value} {ns : List Int}
    (KX : K.In s1.heap) (hns : s1.heap.Ns mainGlobals mg) (hb : s1.heap.Ns builtinsNs mb) (hbb : ∀ x : Str, x ≠ "__name__" → mb x = bootBuiltins x) (hlim : s1.heap.NoLimit) (hg : s1.gens = #[])
    (ha : s1.heap.get? a = some { cls := .type "list", data := .seq vs.toArray }) (hi : IntsAre vs ns) (hl : ns.length ≤ sizeLine) (hr : Room k callerA)
    (F : ∀ base : Heap, K.In base → base.Ns mainGlobals mg → FnG P w K mg base CX0 k fa fd [x] sp) (hbind : ∀ (s : Shared) (u : Value), BindsTo s fd ⟨[u], []⟩ [(x, u)])
    (hsp : ∀ H : Hp, Only H → SqL K H a (ns.map V.int) → sp [.ref a] H (fun v _ => v = .bl true) fun _ _ _ => False) :
    codeAny (model P w) callerA (.call (.ref fa) ⟨[.ref a], []⟩) (fun r s' => r = .ok (.ret (.bool true)) ∧ OldK s1.heap s'.heap ∧ s'.os = s1.os ∧ AllBare s'.gens) s1 := by
  have rv := vals_ints hi
  have lenV := hi.length
  have core : ∀ H : Hp, Only H → SqL K H a (ns.map V.int) → HOk P w H s1.heap → (∀ b, H b ≠ none → b = a) → (H a ≠ none → K.lookup a = none) →
      codeAny (model P w) callerA (.call (.ref fa) ⟨[.ref a], []⟩) (fun r s' => r = .ok (.ret (.bool true)) ∧ OldK s1.heap s'.heap ∧ s'.os = s1.os ∧ AllBare s'.gens) s1 := by
    intro H hO hS hok hA hK
    have atA : ∀ {b : Addr}, H b ≠ none → b = a := fun q => hA _ q
    have low : ∀ {b : Addr} {o : Obj}, s1.heap.get? b = some o → H b = none → (hidT s1.heap H).get? b = some o := fun e n => hidT_get e n
    have noD : ∀ {b : Addr} {o : Obj} {es : Array DictEntry} {ep : Nat}, s1.heap.get? b = some o → o.data = .dict es ep → H b = none := by
      intro b o es ep e d
      cases q : H b with
      | none => rfl
      | some u =>
        obtain rfl : b = a := atA (by rw [q]; simp)
        rw [ha] at e
        cases e
        have d' : Data.seq vs.toArray _ = Data.dict es ep := d
        cases d'
    have nsK : ∀ {b : Addr} {m : Str → Option Value}, s1.heap.Ns b m → (hidT s1.heap H).Ns b m := fun ⟨o, es, ep, e, d, r⟩ => ⟨o, es, ep, low e (noD e d), d, r⟩
    have hKb : K.In (hidT s1.heap H) := by
      intro b o e
      refine low (KX b o e) ?_
      cases q : H b with
      | none => rfl
      | some u =>
        obtain rfl : b = a := atA (by rw [q]; simp)
        rw [hK (by rw [q]; simp)] at e
        cases e
    have hM : Mod K mg (hidT s1.heap H) := ⟨hKb, nsK hns, ⟨mb, nsK hb, hbb⟩, let ⟨mc, h1, h2⟩ := hlim; ⟨mc, nsK h1, h2⟩⟩
    have e0 : Env0 P w K mg (hidT s1.heap H) callerA [] s1 H := ⟨rfl, hM, fun b o e => of_hidT e, Nat.le_of_eq (hidT_size _ _), trivial, fun b hb => absurd (show b ∈ ([] : List Addr) from hb) (by simp), hok, .of_eq hg⟩
    refine codeAny_mono ((F _ hKb (nsK hns)).go callerA [] s1 H ⟨[.ref a], []⟩ [.ref a] [.ref a] _ _ rfl hr e0 (hbind s1 (.ref a)) (.cons rfl .nil) (hsp H hO hS)) fun r s' h => ?_
    cases r with
    | error e => exact False.elim h
    | ok fl => cases fl with
      | next => exact False.elim h
      | brk => exact False.elim h
      | cont => exact False.elim h
      | ret u =>
        obtain ⟨v, H', os, bare, un, hok', r', q⟩ := h
        have q' : v = .bl true := q
        subst q'
        obtain rfl : u = Value.bool true := r'
        refine ⟨rfl, OldK.of_keep fun b o e => ?_, os, bare⟩
        cases q : H b with
        | none => exact un.keep b o e q (by intro z; exact absurd (show b ∈ ([] : List Addr) from z) (by simp)) (by simp)
        | some u =>
          rcases hO b with z | ⟨ob, xs, z⟩
          · rw [q] at z
            cases z
          · obtain ⟨e1, _⟩ := hok b _ z
            obtain ⟨e2, _⟩ := hok' b _ (un.frzs b ob _ z)
            rw [e] at e1
            cases e1
            exact e2
  cases hk : K.lookup a with
  | some o =>
    have e := KX a o hk
    rw [ha] at e
    cases e
    exact core (fun _ => none) (fun _ => .inl rfl) (.inr ⟨_, vs.toArray, _, hk, rfl, rfl, rfl, by rw [List.size_toArray, lenV]; exact hl, by simpa using rv⟩) (fun b u z => by have z' : (none : Option HO) = some u := z; cases z') (fun b z => absurd rfl z) fun z => absurd rfl z
  | none =>
    refine core (fun b => if b = a then some (.frz { cls := .type "list", data := .seq vs.toArray } (.lst (ns.map V.int))) else none) (fun b => ?_) (.inl (.inr ⟨{ cls := .type "list", data := .seq vs.toArray }, if_pos rfl⟩)) (fun b u z => ?_) (fun b z => ?_) fun _ => hk
    · by_cases hb : b = a
      · exact .inr ⟨_, _, if_pos hb⟩
      · exact .inl (if_neg hb)
    · by_cases hb : b = a
      · have z' := (if_pos hb).symm.trans z
        cases z'
        subst hb
        exact ⟨ha, by rw [List.length_map]; exact hl, vs, _, rv, ha⟩
      · have z' := (if_neg hb).symm.trans z
        cases z'
    · by_cases hb : b = a
      · exact hb
      · exact absurd (if_neg hb) z
/-- a law's promise: over every script it gives True -/
def spLaw (K : PySem.W.Frag) : Sp := fun vs H Q _ => ∃ a ns, vs = [.ref a] ∧ Script K H a ns ∧ ∀ H', Q (.bl true) H'
theorem walkG {l : PySem.W.OpenLaw} {k : Nat} {q : Program} {loose : List Str} {XP : (Str → Option Value) → Heap → Prop} {YP : World → Heap → Prop} {d : DefRec} (hn : l.most = some 63) (hdf : d.params.defaults = []) (hr : Room k callerA)
    (F : ∀ (w : World) (mg : Str → Option Value) (fa : Addr) (h : Heap), YP w h → h.Ns mainGlobals mg → mg d.name = some (.ref fa) →
      ∃ (K : PySem.W.Frag) (fd : FuncData), K.In h ∧ (∀ (s : Shared) (u : Value), BindsTo s fd ⟨[u], []⟩ [("script", u)]) ∧ ∀ base : Heap, K.In base → base.Ns mainGlobals mg → FnG l.prog w K mg base CX0 k fa fd ["script"] (spLaw K)) :
    PySem.W.WalkO q loose XP YP l.row.toRowW d [] (fun f vs => PySem.call f vs) := by
  refine Att.attach_callB hn hdf fun w s0 s1 mg mb fa o pm cd doc a vs ns G Y ho hd hcd hmg hobj hints hlen hbits hg => ?_
  obtain ⟨K, fd, KX, hb, hF⟩ := F w mg fa _ Y G.T.g hmg
  exact lawG KX G.T.g G.T.b G.T.builtins G.T.nolimit hg hobj hints (Nat.le_trans hlen (by decide)) hr hF hb fun H _ hS => ⟨a, ns, rfl, ⟨hS, hlen, hbits⟩, fun _ => rfl⟩
end Fh
namespace Fh
open PySem PySem.Spec PyProof.Rows L2 He
/-! ### flat data, lists of it -/
def toD : V → PyData
  | .bl b => .bool b
  | .int i => .int i
  | .str x => .str x
  | _ => .none
theorem dp_flat {K : PySem.W.Frag} {H : Hp} {v : V} (h : flatV v = true) : Dp K H v (toD v) := by
  cases v with
  | non => exact .non
  | bl b => exact .bl b
  | int i => exact .int i
  | str x => exact .str x
  | _ => cases h
theorem dps_flat {K : PySem.W.Frag} {H : Hp} : ∀ {vs : List V}, (∀ v ∈ vs, flatV v = true) → DpAll K H vs (vs.map toD)
  | [], _ => .nil
  | v :: vs, h => .cons (dp_flat (h v List.mem_cons_self)) (dps_flat fun u hu => h u (List.mem_cons_of_mem _ hu))
theorem dp_lst {K : PySem.W.Frag} {H : Hp} {a : Addr} {vs : List V} (h : SqL K H a vs) (f : ∀ v ∈ vs, flatV v = true) : Dp K H (.ref a) (.list (vs.map toD)) := .lst h (dps_flat f)
theorem dps_nest {K : PySem.W.Frag} {H : Hp} : ∀ {ps : List V} {zs : List (List V)}, ps.length = zs.length → (∀ (j : Nat) z, zs[j]? = some z → ∃ p, ps[j]? = some (.ref p) ∧ H p = some (.lst z)) → (∀ z ∈ zs, ∀ v ∈ z, flatV v = true) → DpAll K H ps (zs.map fun z => .list (z.map toD))
  | [], [], _, _, _ => .nil
  | [], z :: zs, h, _, _ => by cases h
  | p :: ps, [], h, _, _ => by cases h
  | p :: ps, z :: zs, h, g, f => by
    obtain ⟨q, e1, e2⟩ := g 0 z rfl
    have e3 : p = .ref q := Option.some.inj e1
    subst e3
    refine .cons (dp_lst (SqL.of e2) (f z List.mem_cons_self)) (dps_nest (Nat.succ.inj h) (fun j y hy => ?_) fun y hy => f y (List.mem_cons_of_mem _ hy))
    obtain ⟨r, r1, r2⟩ := g (j + 1) y hy
    exact ⟨r, r1, r2⟩
theorem lay_all : ∀ {ds : List PyData}, (∀ d ∈ ds, d.canLay0 = true) → PyData.canLayAll0 ds = true
  | [], _ => by simp only [PyData.canLayAll0]
  | d :: ds, h => by
    simp only [PyData.canLayAll0, h d List.mem_cons_self, lay_all fun e he => h e (List.mem_cons_of_mem _ he), Bool.and_self]
theorem depth_all {n : Nat} : ∀ {ds : List PyData}, (∀ d ∈ ds, d.depth ≤ n) → PyData.depthAll ds ≤ n
  | [], _ => by simp only [PyData.depthAll]; exact Nat.zero_le _
  | d :: ds, h => by
    have h1 := h d List.mem_cons_self
    have h2 := depth_all fun e he => h e (List.mem_cons_of_mem _ he)
    simp only [PyData.depthAll]
    omega
/-- flat, its signs in order -/
def okV : V → Bool
  | .str x => PyData.strOk x
  | v => flatV v
theorem okV_flat {v : V} (h : okV v = true) : flatV v = true := by
  cases v <;> first | rfl | exact h
theorem toD_lay {v : V} (h : okV v = true) : (toD v).canLay0 = true ∧ (toD v).depth ≤ 1 := by
  cases v with
  | str x =>
    have h' : PyData.strOk x = true := h
    simp [toD, PyData.canLay0, PyData.depth, h']
  | _ => simp [toD, PyData.canLay0, PyData.depth]
theorem shaped_flat {vs : List V} (h : ∀ v ∈ vs, okV v = true) : SeqAt.shaped (.list (vs.map toD)) = true ∧ (PyData.list (vs.map toD)).depth ≤ 2 := by
  have h1 : PyData.canLayAll0 (vs.map toD) = true := lay_all fun d hd => by
    obtain ⟨v, hv, rfl⟩ := List.mem_map.mp hd
    exact (toD_lay (h v hv)).1
  have h2 : PyData.depthAll (vs.map toD) ≤ 1 := depth_all fun d hd => by
    obtain ⟨v, hv, rfl⟩ := List.mem_map.mp hd
    exact (toD_lay (h v hv)).2
  refine ⟨?_, by simp only [PyData.depth]; omega⟩
  unfold SeqAt.shaped
  simp only [PyData.canLay0, PyData.depth, h1, Bool.true_and, decide_eq_true_eq]
  exact decide_eq_true (by omega)
theorem shaped_nest {zs : List (List V)} (h : ∀ z ∈ zs, ∀ v ∈ z, okV v = true) : SeqAt.shaped (.list (zs.map fun z => .list (z.map toD))) = true := by
  have h1 : PyData.canLayAll0 (zs.map fun z => .list (z.map toD)) = true := lay_all fun d hd => by
    obtain ⟨z, hz, rfl⟩ := List.mem_map.mp hd
    exact SeqAt.canLay_of_shaped (shaped_flat (h z hz)).1
  have h2 : PyData.depthAll (zs.map fun z => .list (z.map toD)) ≤ 2 := depth_all fun d hd => by
    obtain ⟨z, hz, rfl⟩ := List.mem_map.mp hd
    exact (shaped_flat (h z hz)).2
  unfold SeqAt.shaped
  simp only [PyData.canLay0, PyData.depth, h1, Bool.true_and, decide_eq_true_eq]
  exact decide_eq_true (by omega)
theorem ne_same {K : PySem.W.Frag} {H : Hp} {x y : V} {d : PyData} {Q : VK} (hx : Dp K H x d) (hy : Dp K H y d) (hs : SeqAt.shaped d = true) (q : Q (.bl false) H) : rNeD K x y H Q :=
  ⟨d, d, hx, hy, hs, hs, by rw [SeqAt.eqv_refl d (SeqAt.canLay_of_shaped hs)]; exact q⟩
theorem eq_same {K : PySem.W.Frag} {H : Hp} {x y : V} {d : PyData} {Q : VK} (hx : Dp K H x d) (hy : Dp K H y d) (hs : SeqAt.shaped d = true) (q : Q (.bl true) H) : rEqD K x y H Q :=
  ⟨d, d, hx, hy, hs, hs, by rw [SeqAt.eqv_refl d (SeqAt.canLay_of_shaped hs)]; exact q⟩
/-! ### picks of exceptions -/
def KAll (H : Hp) : List Addr → List V → Prop
  | [], vs => vs = []
  | c :: cs, vs => ∃ v r, vs = v :: r ∧ ExK H v c ∧ KAll H cs r
theorem KAll.up {H H' : Hp} (s : Same H H') : ∀ {cs : List Addr} {vs : List V}, KAll H cs vs → KAll H' cs vs
  | [], _, h => h
  | _ :: _, _, ⟨v, r, e, h1, h2⟩ => ⟨v, r, e, h1.up s, h2.up s⟩
theorem KAll.app {H : Hp} : ∀ {cs ds : List Addr} {vs us : List V}, KAll H cs vs → KAll H ds us → KAll H (cs ++ ds) (vs ++ us)
  | [], _, _, _, h, g => by
    have e : _ = [] := h
    subst e
    exact g
  | _ :: _, _, _, us, ⟨v, r, e, h1, h2⟩, g => ⟨v, r ++ us, by rw [e]; rfl, h1, h2.app g⟩
theorem KAll.len {H : Hp} : ∀ {cs : List Addr} {vs : List V}, KAll H cs vs → vs.length = cs.length
  | [], _, h => by
    have e : _ = [] := h
    rw [e]
    rfl
  | _ :: _, _, ⟨v, r, e, _, h2⟩ => by rw [e, List.length_cons, List.length_cons, h2.len]
theorem KAll.get {H : Hp} : ∀ {cs : List Addr} {vs : List V} {i : Nat} {v : V}, KAll H cs vs → vs[i]? = some v → ∃ c, cs[i]? = some c ∧ ExK H v c
  | [], _, i, v, h, g => by
    have e : _ = [] := h
    rw [e] at g
    cases g
  | c :: cs, _, 0, v, ⟨u, r, e, h1, h2⟩, g => by
    rw [e] at g
    cases g
    exact ⟨c, rfl, h1⟩
  | c :: cs, _, i + 1, v, ⟨u, r, e, h1, h2⟩, g => by
    rw [e] at g
    exact KAll.get (i := i) h2 g
theorem XAll.none_of {H : Hp} {y : V} {cs : List (Addr × Str)} {vs : List V} {i : Nat} (h : XAll H y cs vs) (e : vs[i]? = none) : cs[i]? = none := by
  rw [List.getElem?_eq_none_iff] at e ⊢
  rw [← h.len]
  exact e
theorem XAll.pick {H : Hp} {y : V} {cs : List (Addr × Str)} {vs : List V} (h : XAll H y cs vs) : ∀ is : List Nat, KAll H ((pickV is cs).map (·.1)) (pickV is vs)
  | [] => rfl
  | i :: is => by
    have ih := h.pick is
    unfold pickV at ih ⊢
    rw [List.filterMap_cons, List.filterMap_cons]
    cases e : vs[i]? with
    | none => rw [h.none_of e]; exact ih
    | some v =>
      obtain ⟨c, hc, q⟩ := h.get e
      rw [hc]
      exact ⟨v, _, rfl, q.k, ih⟩
end Fh
namespace Fh
open PySem PySem.Spec PyProof.Rows L2 He
/-! ### comprehensions over a range -/
abbrev LrGoal (lo : Int) (n : Nat) (i : Nat) (te : TE) (σ : Sto) (H1 : Hp) (D : Addr) (Qd : Hp → Prop) : Prop :=
  ∃ W : Nat → Nat → Hp → Prop, (∃ m, W 0 m (upd H1 D (.lst []))) ∧ ∀ j m H, W j m H → ((Itr lo n).stop j H ∧ Qd H) ∨ ((Itr lo n).go j H ∧ ∃ Nx : Hp → Prop, (∀ H', Nx H' → ∃ m', m' < m ∧ W (j + 1) m' H') ∧ ∀ x H', (Itr lo n).yld j H x H' →
    gName i x (wipe σ [i]) H' fun σ2 H2 => wipe σ2 [i] = wipe σ [i] ∧ tYes σ2 H2 fun b H3 => if b = true then te σ2 H3 fun y H4 => ∃ acc, H4 D = some (.lst acc) ∧ acc.length < sizeLine ∧ Nx (upd H4 D (.lst (acc ++ [y]))) else Nx H3)
section
variable {lo : Int} {n : Nat} {i : Nat} {te : TE} {σ : Sto} {H1 : Hp} {D : Addr} {Qd : Hp → Prop}
theorem lr_flat (ys : List V) (hn : ys.length = n) (hz : n ≤ 100000) (hD : H1 D = none)
    (hel : ∀ (j : Nat) y H (Q : VK), ys[j]? = some y → Same H1 H → (∀ H', Same H H' → Q y H') → te ((wipe σ [i]).set i (some (.int (lo + j)))) H Q)
    (hd : ∀ H, Same H1 H → H D = some (.lst ys) → Qd H) : LrGoal lo n i te σ H1 D Qd := by
  refine lc_range (lo := lo) (n := n) (fun j H => Same H1 H ∧ H D = some (.lst (ys.take j))) ⟨same_upd hD, upd_same⟩ ?_ ?_
  · rintro j H hj ⟨s, hDl⟩
    have hy : ys[j]? = some (ys[j]'(by omega)) := List.getElem?_eq_getElem (by omega)
    refine ⟨wipe_one σ i _, ?_⟩
    show te ((wipe σ [i]).set i (some (.int (lo + j)))) H _
    refine hel j _ H _ hy s fun H' s' => ?_
    refine ⟨ys.take j, s' _ _ hDl, ?_, same_updX (s.trans s') hD, ?_⟩
    · rw [List.length_take, sizeLine_eq]
      omega
    · rw [upd_same, List.take_add_one, hy]
      rfl
  · rintro H ⟨s, hDl⟩
    refine hd H s ?_
    rw [hDl, ← hn, List.take_length]
theorem lr_lists (zs : List (List V)) (hn : zs.length = n) (hz : n ≤ 100000) (hD : H1 D = none)
    (hel : ∀ (j : Nat) z H (Q : VK), zs[j]? = some z → Same H1 H → (∀ p H', Same H H' → H p = none → H' p = some (.lst z) → Q (.ref p) H') → te ((wipe σ [i]).set i (some (.int (lo + j)))) H Q)
    (hd : ∀ H ps, Same H1 H → H D = some (.lst ps) → ps.length = zs.length → (∀ (j : Nat) z, zs[j]? = some z → ∃ p, ps[j]? = some (.ref p) ∧ H p = some (.lst z)) → Qd H) : LrGoal lo n i te σ H1 D Qd := by
  refine lc_range (lo := lo) (n := n) (fun j H => Same H1 H ∧ ∃ ps, H D = some (.lst ps) ∧ ps.length = j ∧ ∀ (k : Nat) z, k < j → zs[k]? = some z → ∃ p, ps[k]? = some (.ref p) ∧ p ≠ D ∧ H p = some (.lst z)) ⟨same_upd hD, [], upd_same, rfl, fun k z h => absurd h (Nat.not_lt_zero k)⟩ ?_ ?_
  · rintro j H hj ⟨s, ps, hDl, hl, hps⟩
    have hy : zs[j]? = some (zs[j]'(by omega)) := List.getElem?_eq_getElem (by omega)
    refine ⟨wipe_one σ i _, ?_⟩
    show te ((wipe σ [i]).set i (some (.int (lo + j)))) H _
    refine hel j _ H _ hy s fun p H' s' hp hp' => ?_
    refine ⟨ps, s' _ _ hDl, by rw [hl, sizeLine_eq]; omega, same_updX (s.trans s') hD, ps ++ [.ref p], upd_same, by rw [List.length_append, hl]; rfl, fun k z hk hz => ?_⟩
    have npD : p ≠ D := fun e => by
      rw [e, hDl] at hp
      cases hp
    by_cases hkj : k < j
    · obtain ⟨q, e1, e2, e3⟩ := hps k z hkj hz
      exact ⟨q, by rw [List.getElem?_append_left (by omega)]; exact e1, e2, by rw [upd_ne e2]; exact s' _ _ e3⟩
    · have hkj' : k = j := by omega
      subst hkj'
      rw [hy] at hz
      cases hz
      exact ⟨p, by rw [List.getElem?_append_right (by omega), hl, Nat.sub_self]; rfl, npD, by rw [upd_ne npD]; exact hp'⟩
  · rintro H ⟨s, ps, hDl, hl, hps⟩
    refine hd H ps s hDl (by rw [hl, hn]) fun k z hz => ?_
    have hk : k < zs.length := (List.getElem?_eq_some_iff.mp hz).1
    obtain ⟨q, e1, _, e3⟩ := hps k z (by omega) hz
    exact ⟨q, e1, e3⟩
end
/-! ### a part of a list of exceptions -/
theorem XAll.drop {H : Hp} {y : V} : ∀ {cs : List (Addr × Str)} {vs : List V} (n : Nat), XAll H y cs vs → XAll H y (cs.drop n) (vs.drop n)
  | _, _, 0, h => h
  | [], _, n + 1, h => by
    have e : _ = [] := h
    rw [e]
    exact rfl
  | c :: cs, _, n + 1, ⟨v, r, e, _, h2⟩ => by
    rw [e]
    exact XAll.drop n h2
theorem XAll.take {H : Hp} {y : V} : ∀ {cs : List (Addr × Str)} {vs : List V} (n : Nat), XAll H y cs vs → XAll H y (cs.take n) (vs.take n)
  | _, _, 0, h => rfl
  | [], _, n + 1, h => by
    have e : _ = [] := h
    rw [e]
    exact rfl
  | c :: cs, _, n + 1, ⟨v, r, e, h1, h2⟩ => by
    rw [e]
    exact ⟨v, r.take n, rfl, h1, XAll.take n h2⟩
/-- all have the field f -/
theorem XAll.field {H : Hp} {y : V} {f : Str} {cs : List (Addr × Str)} {vs : List V} {i : Nat} {v : V} (h : XAll H y cs vs) (hf : ∀ c ∈ cs, c.2 = f) (e : vs[i]? = some v) : ∃ c ∈ cs, c.2 = f ∧ ExAt H v c.1 f y := by
  obtain ⟨c, hc, q⟩ := h.get e
  have m := List.mem_of_getElem? hc
  have ef := hf c m
  exact ⟨c, m, ef, ef ▸ q⟩
end Fh
namespace Fh
open PySem PySem.Spec PyProof.Rows L2 He
/-! ### the head: facts of names, of defs, and one more Bool of the written part -/
abbrev AlE : Type := AlD × Bool
def obsE (n : Nat) (fa : List Fa) (fn : List DefD) (ex : PySem.W.Frag → Bool) (g : Addr → Option Obj) : AlE := (obsD fa fn (frG g (asD g n)), ex (frG g (asD g n)))
def SaysE (fa : List Fa) (fn : List DefD) (ex : PySem.W.Frag → Bool) (K : PySem.W.Frag) : Prop := SaysD fa fn K ∧ ex K = true
def hookE (n : Nat) (fa : List Fa) (fn : List DefD) (ex : PySem.W.Frag → Bool) : PySem.W.Hook where
  α := AlE
  obs := fun s => obsE n fa fn ex s.heap.get?
  val := fun _ => (valD fn, true)
  says := fun _ h => ∃ K : PySem.W.Frag, K.In h ∧ SaysE fa fn ex K
  of := fun _ _ e => ⟨_, frG_in, congrArg (fun z : AlE => z.1) e, congrArg (fun z : AlE => z.2) e⟩
  keeps := fun _ _ _ ⟨K, hK, c⟩ k => ⟨K, PySem.W.Frag.In.keeps hK k, c⟩
theorem obsE_eq {n : Nat} {fa : List Fa} {fn : List DefD} {ex : PySem.W.Frag → Bool} {g : Addr → Option Obj} {s : Shared} (h : ∀ a, g a = s.heap.get? a) : obsE n fa fn ex g = (hookE n fa fn ex).obs s := by
  have e : g = s.heap.get? := funext h
  rw [e] <;> rfl
/-- one fact among the facts -/
theorem says_fa {fa : List Fa} {fn : List DefD} {K : PySem.W.Frag} (c : SaysD fa fn K) {f : Fa} (h : f ∈ fa) : f.ok K = true := by
  obtain ⟨i, hi, e⟩ := List.mem_iff_getElem.mp h
  exact c.fact i (f := f) (by rw [List.getElem?_eq_getElem hi, e])
theorem says_fn {fa : List Fa} {fn : List DefD} {K : PySem.W.Frag} (c : SaysD fa fn K) {d : DefD} (h : d ∈ fn) : ∃ fd, FunD K d.name d.qual d.params d.body d.scope (d.dvs K) (d.kws K) (fAd K d.at_) fd := by
  obtain ⟨i, hi, e⟩ := List.mem_iff_getElem.mp h
  exact c.def_ i (d := d) (by rw [List.getElem?_eq_getElem hi, e])
end Fh
namespace K1
open PySem PySem.Spec PyProof.Rows L2 He Fh
def top (i : Nat) : Stmt := PySem.Challenge.pw_farhandles_k01_errors_made.main.body.getD i (.Pass ⟨0, 0, 0, 0⟩)
abbrev FnP (K : PySem.W.Frag) (x : Str) (st : Stmt) (f : Addr) (fd : FuncData) : Prop := FunD K x x (defArgs st) (defBody st) (defScope st) [] [] f fd
abbrev sTape : Stmt := top 25
abbrev sPick : Stmt := top 26
abbrev sOne : Stmt := top 27
section
variable {P : Program} {w : World} {K : PySem.W.Frag} {mg : Str → Option Value} {base : Heap}
theorem scTape : FnScope ["script", "first", "mixed", "cell", "digits"] ["script", "first"] (defScope sTape) := ⟨rfl, rfl, rfl, by decide +kernel, rfl, by decide +kernel, by decide +kernel⟩
theorem ok_tape {f : Addr} {fd : FuncData} (F : FnP K "_law_tape" sTape f fd) (g_int : mg "int" = none) (g_len : mg "len" = none) : FnOk P w K mg base CX0 1 f fd ["script", "first"] (spTape K) := by
  refine F.ok scTape (fun vs H Q E h => ?_) (fun cdv A outer s H vs Q E hr h => ?_)
  · obtain ⟨a, ns, i, rfl, _⟩ := h
    rfl
  · obtain ⟨a, ns, i, rfl, hS, hi, hQ⟩ := h
    refine ⟨_, PSs.nox (pss_cons (ps_set (i := 2) scTape.nd rfl (Or.inl rfl) (pe_op op_add pe_int (pe_op op_mul (pv 1) pe_int)))
 (pss_cons (ps_for PassesOwn.never rfl (pi_list (pv 0)) (pg_name (i := 3) scTape.nd rfl (Or.inl rfl))
 (pss_one (ps_set (i := 2) scTape.nd rfl (Or.inl rfl) (pe_op op_add (pe_op op_mod (pe_callTy call_int1 (by rfl) g_int (by decide +kernel) (pa_cons (pe_op op_powB (pe_op op_add (pe_op op_add (pe_op op_mul (pv 2) pe_int) (pe_op op_mulX (pv 3) (pv 3))) pe_int) pe_int) pa_nil)) pe_int) pe_int))))
 (pss_cons (ps_set (i := 4) scTape.nd rfl (Or.inl rfl) (pe_ifExp (PW.pt (pw_and (pt_cmpR op_lt (pv 1) (pe_callB call_len (by rfl) g_len (by decide +kernel) (pa_cons (pv 0) pa_nil)) (nomark _)) (pw_and1 (pt_cmpR op_ge (pe_ix ix_list (pv 0) (pv 1) (fun _ _ => rfl)) (pe_op op_pow pe_int pe_int) (nomark _))))) (pe_op op_sub (pe_ix ix_list (pv 0) (pv 1) (fun _ _ => rfl)) (pe_op op_pow pe_int pe_int)) pe_int))
 (pss_one (ps_ret (pe_disp (pps_cons pe_str (pv 4) (pps_cons pe_str (pv 2) pps_nil)) (by rfl) (by rfl) (fun z => by cases z) (by decide))))))), ?_⟩
    refine ⟨_, rfl, _, _, rfl, rfl, .inr (by decide), _, _, rfl, rfl, ?_⟩
    refine ⟨_, rfl, a, rfl, ⟨_, hS.at_⟩, for_list (K := K) (a := a) (xs := ns.map V.int) (fun _ σ H' => H' = H ∧ ∃ (m : Int) (v : Option V), σ = [some (.ref a), some (.int i), some (.int m), v, none] ∧ 0 ≤ m ∧ m < 2147483600)
      ⟨rfl, _, none, rfl, by omega, by omega⟩ (fun _ _ H' _ h => by rw [h.1]; exact hS.at_) ?_ ?_⟩
    · rintro j y σ H' hj ⟨rfl, m, v, rfl, m0, m1⟩
      obtain ⟨c, rfl, hc⟩ : ∃ c, y = V.int c ∧ c ∈ ns := by
        rw [List.getElem?_map] at hj
        cases e : ns[j]? with
        | none => rw [e] at hj; cases hj
        | some c => rw [e] at hj; exact ⟨c, (Option.some.inj hj).symm, List.mem_of_getElem? e⟩
      obtain ⟨b1, b2⟩ := tape_num m c m0 m1 (hS.bits c hc)
      refine ⟨_, rfl, _, _, rfl, rfl, .inr (by decide), _, rfl, _, rfl, _, _, rfl, rfl, b1, _, _, rfl, rfl, _, _, rfl, rfl, _, _, rfl, rfl, b2, .inl ⟨_, rfl, _, _, rfl, rfl, (by show (0 : Int) < 2147483563; decide), _, _, rfl, rfl, ?_⟩⟩
      have e1 := Int.emod_nonneg ((m * 30029 + c * c + 13) ^ (2 : Int).toNat) (show (2147483563 : Int) ≠ 0 by decide)
      have e2 := Int.emod_lt_of_pos ((m * 30029 + c * c + 13) ^ (2 : Int).toNat) (show (0 : Int) < 2147483563 by decide)
      exact ⟨rfl, _, _, rfl, by omega, by omega⟩
    · rintro σ H' ⟨rfl, m, v, rfl, m0, m1⟩
      have fin : ∀ d : Int, 0 ≤ d → ∀ (v : Option V), ∀ p, H' p = none → ∀ q : (H' p = none), upd (upd H' p (.dK [])) p (.dK (mergeK [] [(kDig, V.int d), (kMix, V.int m)])) p = some (tapeO d m) ∧ Same H' (upd (upd H' p (.dK [])) p (.dK (mergeK [] [(kDig, V.int d), (kMix, V.int m)]))) := fun d d0 v p hp _ =>
        ⟨upd_same, fun b o e => by rw [upd_ne (ne_of_none e hp), upd_ne (ne_of_none e hp)]; exact e⟩
      refine ⟨_, rfl, _, rfl, _, (ns.map V.int).length, rfl, .inl ⟨_, hS.at_, rfl⟩, _, _, rfl, rfl, _, rfl, ?_⟩
      refine ite2 (fun hlt => ?_) (fun hlt => ?_)
      · have hlt' := of_decide_eq_true hlt
        rw [List.length_map] at hlt'
        have hil : i < ns.length := by omega
        have hit : (ns.map V.int)[i]? = some (.int ns[i]) := by rw [List.getElem?_map, List.getElem?_eq_getElem hil]; rfl
        refine ⟨_, rfl, _, rfl, a, _, _, _, rfl, rfl, hS.at_, atI_nat hit, _, _, rfl, rfl, ⟨by decide, by decide, by decide⟩, _, _, rfl, rfl, _, rfl, ?_⟩
        refine ite2 (fun hge => ?_) (fun hge => ?_)
        · have hge' := of_decide_eq_true hge
          refine ⟨_, rfl, _, rfl, a, _, _, _, rfl, rfl, hS.at_, atI_nat hit, _, _, rfl, rfl, ⟨by decide, by decide, by decide⟩, _, _, rfl, rfl, ?_⟩
          intro p hp
          obtain ⟨f1, f2⟩ := fin (ns[i] - 10 ^ (18 : Int).toNat) (by omega) v p hp hp
          exact ⟨_, rfl, _, rfl, upd_same, [(kDig, V.int _), (kMix, V.int m)], rfl, (by show 2 ≤ 15; decide), hQ p _ hp f2 ⟨_, m, f1, by omega, m0, m1⟩⟩
        · intro p hp
          obtain ⟨f1, f2⟩ := fin 0 (by omega) v p hp hp
          exact ⟨_, rfl, _, rfl, upd_same, [(kDig, V.int 0), (kMix, V.int m)], rfl, (by show 2 ≤ 15; decide), hQ p _ hp f2 ⟨_, m, f1, by omega, m0, m1⟩⟩
      · intro p hp
        obtain ⟨f1, f2⟩ := fin 0 (by omega) v p hp hp
        exact ⟨_, rfl, _, rfl, upd_same, [(kDig, V.int 0), (kMix, V.int m)], rfl, (by show 2 ≤ 15; decide), hQ p _ hp f2 ⟨_, m, f1, by omega, m0, m1⟩⟩
/-! ### _law_pick -/
theorem scPick : FnScope ["tape", "many", "once", "found"] ["tape", "many"] (defScope sPick) := ⟨rfl, rfl, rfl, by decide +kernel, rfl, by decide +kernel, by decide +kernel⟩
theorem ok_pick {f : Addr} {fd : FuncData} (F : FnP K "_law_pick" sPick f fd) (g_int : mg "int" = none) : FnOk P w K mg base CX0 1 f fd ["tape", "many"] spPick := by
  refine F.ok scPick (fun vs H Q E h => ?_) (fun cdv A outer s H vs Q E hr h => ?_)
  · obtain ⟨t, n, rfl, _⟩ := h
    rfl
  · obtain ⟨t, n, rfl, ⟨d, m, ht, d0, m0, m1⟩, hn, hn2, hQ⟩ := h
    have hu := hu_of hr
    have hnz : (0 : Int) < (n : Int) := by omega
    refine ⟨_, PSs.nox (pss_cons (ps_if (pt_cmpR op_ge (pe_dget hu (pv 0) pe_str (fun _ _ => rfl)) (pv 1) (nomark _))
 (pss_cons (ps_set (i := 3) scPick.nd rfl (Or.inl rfl) (pe_op op_mod (pe_callTy call_int1 (by rfl) g_int (by decide +kernel) (pa_cons (pe_dget hu (pv 0) pe_str (fun _ _ => rfl)) pa_nil)) (pv 1)))
 (pss_cons (ps_dput hu (pv 0) pe_str (pe_op op_fdiv (pe_dget hu (pv 0) pe_str (fun _ _ => rfl)) (pv 1)) rfl)
 (pss_one (ps_ret (pv 3))))) pss_nil)
 (pss_cons (ps_dput hu (pv 0) pe_str (pe_op op_mod (pe_callTy call_int1 (by rfl) g_int (by decide +kernel) (pa_cons (pe_op op_add (pe_op op_mul (pe_dget hu (pv 0) pe_str (fun _ _ => rfl)) pe_int) pe_int) pa_nil)) pe_int) rfl)
 (pss_cons (ps_set (i := 2) scPick.nd rfl (Or.inl rfl) (pe_op op_mod (pe_callTy call_int1 (by rfl) g_int (by decide +kernel) (pa_cons (pe_op op_pow (pe_dget hu (pv 0) pe_str (fun _ _ => rfl)) pe_int) pa_nil)) pe_int))
 (pss_one (ps_ret (pe_op op_mod (pe_callTy call_int1 (by rfl) g_int (by decide +kernel) (pa_cons (pe_op op_fdiv (pe_op op_mod (pe_callTy call_int1 (by rfl) g_int (by decide +kernel) (pa_cons (pe_op op_pow (pv 2) pe_int) pa_nil)) pe_int) pe_int) pa_nil)) (pv 1))))))), ?_⟩
    refine ⟨_, rfl, t, _, rfl, get_dig ht, _, rfl, _, _, rfl, rfl, _, rfl, ?_⟩
    refine ite2 (fun _ => ?_) (fun _ => ?_)
    · refine ⟨_, rfl, t, _, rfl, get_dig ht, .inl ⟨_, rfl, _, rfl, _, _, rfl, rfl, hnz, ?_⟩⟩
      refine ⟨_, rfl, t, _, rfl, get_dig ht, _, rfl, _, _, rfl, rfl, ⟨hnz, by omega⟩, _, rfl, t, _, rfl, put_dig ht, _, rfl, ?_⟩
      have e1 := Int.emod_nonneg d (show (n : Int) ≠ 0 by omega)
      have e2 := Int.emod_lt_of_pos d hnz
      have e3 : ((d % (n : Int)).toNat : Int) = d % (n : Int) := Int.toNat_of_nonneg e1
      have q := hQ (d % (n : Int)).toNat (d / (n : Int)) m (by omega) (Int.ediv_nonneg d0 (by omega)) m0 m1
      rw [e3] at q
      exact q
    · refine ⟨_, rfl, t, _, rfl, get_mix ht, _, _, rfl, rfl, .inr (by decide), _, _, rfl, rfl, .inl ⟨_, rfl, _, _, rfl, rfl, (by show (0 : Int) < 2147483563; decide), _, rfl, t, _, rfl, put_mix ht, ?_⟩⟩
      have a1 := Int.emod_nonneg (m * 40014 + 1031) (show (2147483563 : Int) ≠ 0 by decide)
      have a2 := Int.emod_lt_of_pos (m * 40014 + 1031) (show (0 : Int) < 2147483563 by decide)
      generalize (m * 40014 + 1031) % 2147483563 = m' at a1 a2
      refine ⟨_, rfl, t, _, rfl, get_mix upd_same, _, _, rfl, rfl, ⟨by decide, by decide, by omega⟩, .inl ⟨_, rfl, _, _, rfl, rfl, (by show (0 : Int) < 2147483399; decide), ?_⟩⟩
      have c1 := Int.emod_nonneg (m' ^ (2 : Int).toNat) (show (2147483399 : Int) ≠ 0 by decide)
      have c2 := Int.emod_lt_of_pos (m' ^ (2 : Int).toNat) (show (0 : Int) < 2147483399 by decide)
      refine ⟨_, rfl, _, _, rfl, rfl, ⟨by decide, by decide, by omega⟩, .inl ⟨_, rfl, _, _, rfl, rfl, (by show (0 : Int) < 998244353; decide), _, _, rfl, rfl, ⟨by decide, by decide⟩, .inl ⟨_, rfl, _, rfl, _, _, rfl, rfl, hnz, ?_⟩⟩⟩
      show Q (V.int (((m' ^ (2 : Int).toNat % 2147483399) ^ (3 : Int).toNat % 998244353 / 13) % (n : Int))) _
      generalize (m' ^ (2 : Int).toNat % 2147483399) ^ (3 : Int).toNat % 998244353 / 13 = z
      have e1 := Int.emod_nonneg z (show (n : Int) ≠ 0 by omega)
      have e2 := Int.emod_lt_of_pos z hnz
      have e3 : ((z % (n : Int)).toNat : Int) = z % (n : Int) := Int.toNat_of_nonneg e1
      have q := hQ (z % (n : Int)).toNat d m' (by omega) d0 (by omega) (by omega)
      rw [e3] at q
      exact q
/-! ### _law_one_of -/
theorem scOne : FnScope ["tape", "things"] ["tape", "things"] (defScope sOne) := ⟨rfl, rfl, rfl, by decide +kernel, rfl, by decide +kernel, by decide +kernel⟩
theorem ok_one {f fP : Addr} {fd fdP : FuncData} (F : FnP K "_law_one_of" sOne f fd) (g_len : mg "len" = none) (G_law_pick : FnOk P w K mg base CX0 1 fP fdP ["tape", "many"] spPick) (m_law_pick : mg "_law_pick" = some (.ref fP)) (k_law_pick : PySem.W.keepIn K (.ref fP) = true) (b_law_pick : Binds K fdP ["tape", "many"] []) :
    FnOk P w K mg base CX0 2 f fd ["tape", "things"] (spOne K) := by
  refine F.ok scOne (fun vs H Q E h => ?_) (fun cdv A outer s H vs Q E hr h => ?_)
  · obtain ⟨t, a, xs, rfl, _⟩ := h
    rfl
  · obtain ⟨t, a, xs, rfl, hT, hS, h0, h1, hat, hQ⟩ := h
    have r_law_pick := hr
    refine ⟨_, PSs.nox (pss_one (ps_ret (pe_ix ix_list (pv 1) (pe_call G_law_pick r_law_pick rfl m_law_pick k_law_pick b_law_pick .nil pass0 (pa_cons (pv 0) (pa_cons (pe_callB call_len (by rfl) g_len (by decide +kernel) (pa_cons (pv 1) pa_nil)) pa_nil))) (fun _ _ => rfl)))), ?_⟩
    refine ⟨_, rfl, _, rfl, _, rfl, _, _, rfl, .inl ⟨_, hS, rfl⟩, t, xs.length, rfl, hT, h0, h1, fun r d m hr d0 m0 m1 => ?_⟩
    exact ⟨a, xs, _, xs[r], rfl, rfl, hat _, atI_nat (List.getElem?_eq_getElem hr), hQ _ d m (List.getElem_mem hr) d0 m0 m1⟩
end
end K1
namespace K1
open PySem PySem.Spec PyProof.Rows L2 He Fh
abbrev sAny : Stmt := top 28
section
variable {P : Program} {w : World} {K : PySem.W.Frag} {mg : Str → Option Value} {base : Heap}
theorem scAny : FnScope ["tape", "some"] ["tape"] (defScope sAny) := ⟨rfl, rfl, rfl, by decide +kernel, rfl, by decide +kernel, by decide +kernel⟩
theorem ok_any {f fO : Addr} {fd fdO : FuncData} (F : FnP K "_law_any" sAny f fd) (G_law_one_of : FnOk P w K mg base CX0 2 fO fdO ["tape", "things"] (spOne K)) (m_law_one_of : mg "_law_one_of" = some (.ref fO)) (k_law_one_of : PySem.W.keepIn K (.ref fO) = true) (b_law_one_of : Binds K fdO ["tape", "things"] []) :
    FnOk P w K mg base CX0 3 f fd ["tape"] spAny := by
  refine F.ok scAny (fun vs H Q E h => ?_) (fun cdv A outer s H vs Q E hr h => ?_)
  · obtain ⟨t, rfl, _⟩ := h
    rfl
  · obtain ⟨t, rfl, hT, hQ⟩ := h
    have r_law_one_of := hr
    refine ⟨_, PSs.nox (pss_cons (ps_set (i := 1) scAny.nd rfl (Or.inl rfl) (dat_lst (dats_cons dat_non (dats_cons dat_bl (dats_cons dat_bl (dats_cons dat_int (dats_cons dat_int (dats_cons dat_int (dats_cons dat_int (dats_cons dat_sub (dats_cons (dat_pow (by decide) (by decide) (by decide)) (dats_cons dat_str (dats_cons dat_str (dats_cons dat_str (dats_cons dat_str (dats_cons dat_str (dats_cons (dat_tup dats_nil (by decide)) (dats_cons (dat_lst dats_nil (by decide)) (dats_cons dat_dict0 (dats_cons (dat_tup (dats_cons dat_int dats_nil) (by decide)) (dats_cons (dat_lst (dats_cons dat_int dats_nil) (by decide)) (dats_cons (dat_dict [(.inr "h", .int 1)] (pps_cons pe_str dat_int pps_nil) (by rfl) (by rfl) (fun z => by cases z) (by decide) (by decide) (by decide +kernel)) (dats_cons (dat_dict [(.inr "h", .int 0)] (pps_cons pe_str dat_int pps_nil) (by rfl) (by rfl) (fun z => by cases z) (by decide) (by decide) (by decide +kernel)) (dats_cons (dat_dict [(.inl 0, .int 1)] (pps_cons pe_int dat_int pps_nil) (by rfl) (by rfl) (fun z => by cases z) (by decide) (by decide) (by decide +kernel)) (dats_cons (dat_tup (dats_cons dat_int (dats_cons dat_int dats_nil)) (by decide)) dats_nil))))))))))))))))))))))) (by decide)))
 (pss_cons (ps_set (i := 1) scAny.nd rfl (Or.inl rfl) (pe_op op_cat (pv 1) (dat_lst (dats_cons (dat_lst (dats_cons dat_str dats_nil) (by decide)) (dats_cons (dat_lst (dats_cons dat_non dats_nil) (by decide)) (dats_cons (dat_lst (dats_cons dat_str (dats_cons dat_str dats_nil)) (by decide)) (dats_cons (dat_tup (dats_cons dat_str (dats_cons dat_str (dats_cons (dat_tup dats_nil (by decide)) (dats_cons dat_int dats_nil)))) (by decide)) (dats_cons (dat_lst (dats_cons (dat_tup (dats_cons dat_str (dats_cons dat_str (dats_cons (dat_tup dats_nil (by decide)) (dats_cons dat_int dats_nil)))) (by decide)) dats_nil) (by decide)) (dats_cons (dat_tup (dats_cons dat_str (dats_cons dat_str dats_nil)) (by decide)) (dats_cons (dat_dict [(.inr "a", .int 0)] (pps_cons pe_str dat_int pps_nil) (by rfl) (by rfl) (fun z => by cases z) (by decide) (by decide) (by decide +kernel)) (dats_cons (dat_tup (dats_cons (dat_lst dats_nil (by decide)) (dats_cons dat_str (dats_cons (dat_lst dats_nil (by decide)) dats_nil))) (by decide)) (dats_cons (dat_tup (dats_cons dat_str (dats_cons (dat_lst dats_nil (by decide)) (dats_cons (dat_lst dats_nil (by decide)) dats_nil))) (by decide)) dats_nil))))))))) (by decide))))
 (pss_one (ps_ret (pe_call G_law_one_of r_law_one_of rfl m_law_one_of k_law_one_of b_law_one_of .nil pass0 (pa_cons (pv 0) (pa_cons (pe_op op_cat (pv 1) (dat_lst (dats_cons (dat_dict [(.inr "ends", .dict []), (.inr "alive", .dict []), (.inr "beside", .dict []), (.inr "roof", .dict [])] (pps_cons pe_str dat_dict0 (pps_cons pe_str dat_dict0 (pps_cons pe_str dat_dict0 (pps_cons pe_str dat_dict0 pps_nil)))) (by rfl) (by rfl) (fun z => by cases z) (by decide) (by decide) (by decide +kernel)) (dats_cons (dat_dictT (ks := [.inr "h", .inl 0]) hr (dat_tup (dats_cons dat_str (dats_cons dat_int dats_nil)) (by decide)) dat_int) (dats_cons (dat_dict [(.inr "twice", .list []), (.inr "lost", .list [])] (pps_cons pe_str (dat_lst dats_nil (by decide)) (pps_cons pe_str (dat_lst dats_nil (by decide)) pps_nil)) (by rfl) (by rfl) (fun z => by cases z) (by decide) (by decide) (by decide +kernel)) (dats_cons (dat_lst (dats_cons (dat_tup (dats_cons dat_str (dats_cons dat_str dats_nil)) (by decide)) dats_nil) (by decide)) (dats_cons dat_str dats_nil))))) (by decide))) pa_nil))))))), ?_⟩
    intro v1 H1 s1 e1
    refine ⟨_, rfl, ?_⟩
    intro v2 H2 s2 e2
    simp only [Dq] at e1 e2
    obtain ⟨a1, x1, rfl, _, l1, q1⟩ := e1
    obtain ⟨a2, x2, rfl, _, l2, q2⟩ := e2
    have n1 := dqAll_len _ _ q1
    have n2 := dqAll_len _ _ q2
    refine ⟨a1, a2, x1, x2, rfl, rfl, s2 _ _ (newH_up _ _ l1), newH_up _ _ l2, (by rw [n1, n2]; decide), fun p hp => ?_⟩
    refine ⟨_, rfl, _, rfl, ?_⟩
    intro v3 H3 s3 e3
    simp only [Dq] at e3
    obtain ⟨a3, x3, rfl, _, l3, q3⟩ := e3
    have n3 := dqAll_len _ _ q3
    have sp := same_upd (o := .lst (x1 ++ x2)) hp
    have n12 : (x1 ++ x2).length = _ := (List.length_append).trans (by rw [n1, n2])
    refine ⟨p, a3, x1 ++ x2, x3, rfl, rfl, s3 _ _ upd_same, newH_up _ _ l3, (by rw [n12, n3]; decide), fun z hz => ?_⟩
    have sz := same_upd (o := .lst (x1 ++ x2 ++ x3)) hz
    have s0 : Same H (upd H3 z (.lst (x1 ++ x2 ++ x3))) := s1.trans (s2.trans (sp.trans (s3.trans sz)))
    have qa := DqAll.app (DqAll.app (DqAll.up (newH_r (s2.trans (sp.trans (s3.trans sz)))) _ _ q1) (DqAll.up ((newH_l s1).trans (newH_r (sp.trans (s3.trans sz)))) _ _ q2)) (DqAll.up ((newH_l (s1.trans (s2.trans sp))).trans (newH_r sz)) _ _ q3)
    have n123 : (x1 ++ x2 ++ x3).length = _ := (List.length_append).trans (by rw [n12, n3])
    have hzt : z ≠ t := fun e => by
      obtain ⟨d, m, ht, _⟩ := hT
      rw [e] at hz
      have := (s1.trans (s2.trans (sp.trans s3))) t _ ht
      rw [hz] at this
      cases this
    refine ⟨t, z, x1 ++ x2 ++ x3, rfl, hT.up s0, SqL.of upd_same, (by rw [n123]; decide), (by rw [n123]; decide), fun o => SqL.of (by rw [upd_ne hzt]; exact upd_same), fun v d m hv d0 m0 m1 => ?_⟩
    obtain ⟨dd, hd, qd⟩ := DqAll.mem qa hv
    refine hQ v dd _ (dOkB_ok (List.all_eq_true.mp (by decide +kernel) dd hd)) (fun b o hb e => by rw [upd_ne hb]; exact s0 b o e) (Dq.up (fun b o e => ?_) _ _ qd)
    have hb : b ≠ t := fun e2 => by
      obtain ⟨d, m, ht, _⟩ := hT
      unfold newH at e
      rw [e2, ht] at e
      cases e
    rw [upd_ne hb]
    exact newH_up _ _ e
end
end K1
namespace K1
open PySem PySem.Spec PyProof.Rows L2 He Fh
abbrev sVals : Stmt := top 29
abbrev sOths : Stmt := top 30
/-- the classes whose field is value, in the law's order -/
def nmV : List Str := ["BadKinds", "BadHandles", "BadRules", "BadStart", "BadCount", "NoRule", "NoKind", "BadPrices", "BadUntold", "BadWeights", "BadLetters", "BadTimes", "BadName", "NoThing", "NoHolder"]
/-- the others, with their field -/
def nmO : List (Str × Str) := [("BadRule", "number"), ("NotDone", "number"), ("BadLine", "line"), ("NamedTwice", "name"), ("NoEnd", "name"), ("NotHeld", "name")]
def allV (K : PySem.W.Frag) : List (Addr × Str) := nmV.flatMap fun x => [(ga K x, "value"), (ga K x, "value")]
def allO (K : PySem.W.Frag) : List (Addr × Str) := nmO.flatMap fun q => [(ga K q.1, q.2), (ga K q.1, q.2)]
section
variable {P : Program} {w : World} {K : PySem.W.Frag} {mg : Str → Option Value} {base : Heap}
theorem scVals : FnScope ["thing", "found"] ["thing"] (defScope sVals) := ⟨rfl, rfl, rfl, by decide +kernel, rfl, by decide +kernel, by decide +kernel⟩
theorem ok_vals {f : Addr} {fd : FuncData} (F : FnP K "_law_of_values" sVals f fd) (c_BadKinds : Cl P w K mg base "BadKinds" "value") (c_BadHandles : Cl P w K mg base "BadHandles" "value") (c_BadRules : Cl P w K mg base "BadRules" "value")
    (c_BadStart : Cl P w K mg base "BadStart" "value") (c_BadCount : Cl P w K mg base "BadCount" "value") (c_NoRule : Cl P w K mg base "NoRule" "value") (c_NoKind : Cl P w K mg base "NoKind" "value") (c_BadPrices : Cl P w K mg base "BadPrices" "value")
    (c_BadUntold : Cl P w K mg base "BadUntold" "value") (c_BadWeights : Cl P w K mg base "BadWeights" "value") (c_BadLetters : Cl P w K mg base "BadLetters" "value") (c_BadTimes : Cl P w K mg base "BadTimes" "value") (c_BadName : Cl P w K mg base "BadName" "value")
    (c_NoThing : Cl P w K mg base "NoThing" "value") (c_NoHolder : Cl P w K mg base "NoHolder" "value") : FnOk P w K mg base CX0 3 f fd ["thing"] (spXs (allV K)) := by
  refine F.ok scVals (fun vs H Q E h => ?_) (fun cdv A outer s H vs Q E hr h => ?_)
  · obtain ⟨y, rfl, _⟩ := h
    rfl
  · obtain ⟨y, rfl, hQ⟩ := h
    refine ⟨_, PSs.nox (pss_cons (ps_set (i := 1) scVals.nd rfl (Or.inl rfl) (pe_lst (pax_cons (pe_clK c_BadKinds hr rfl (pv 0)) (pax_cons (pe_cl c_BadKinds hr rfl (pv 0)) (pax_cons (pe_clK c_BadHandles hr rfl (pv 0)) (pax_cons (pe_cl c_BadHandles hr rfl (pv 0)) (pax_cons (pe_clK c_BadRules hr rfl (pv 0)) (pax_cons (pe_cl c_BadRules hr rfl (pv 0)) pax_nil))))))))
 (pss_cons (ps_set (i := 1) scVals.nd rfl (Or.inl rfl) (pe_op op_cat (pv 1) (pe_lst (pax_cons (pe_clK c_BadStart hr rfl (pv 0)) (pax_cons (pe_cl c_BadStart hr rfl (pv 0)) (pax_cons (pe_clK c_BadCount hr rfl (pv 0)) (pax_cons (pe_cl c_BadCount hr rfl (pv 0)) (pax_cons (pe_clK c_NoRule hr rfl (pv 0)) (pax_cons (pe_cl c_NoRule hr rfl (pv 0)) pax_nil)))))))))
 (pss_cons (ps_set (i := 1) scVals.nd rfl (Or.inl rfl) (pe_op op_cat (pv 1) (pe_lst (pax_cons (pe_clK c_NoKind hr rfl (pv 0)) (pax_cons (pe_cl c_NoKind hr rfl (pv 0)) (pax_cons (pe_clK c_BadPrices hr rfl (pv 0)) (pax_cons (pe_cl c_BadPrices hr rfl (pv 0)) (pax_cons (pe_clK c_BadUntold hr rfl (pv 0)) (pax_cons (pe_cl c_BadUntold hr rfl (pv 0)) pax_nil)))))))))
 (pss_cons (ps_set (i := 1) scVals.nd rfl (Or.inl rfl) (pe_op op_cat (pv 1) (pe_lst (pax_cons (pe_clK c_BadWeights hr rfl (pv 0)) (pax_cons (pe_cl c_BadWeights hr rfl (pv 0)) (pax_cons (pe_clK c_BadLetters hr rfl (pv 0)) (pax_cons (pe_cl c_BadLetters hr rfl (pv 0)) (pax_cons (pe_clK c_BadTimes hr rfl (pv 0)) (pax_cons (pe_cl c_BadTimes hr rfl (pv 0)) pax_nil)))))))))
 (pss_one (ps_ret (pe_op op_cat (pv 1) (pe_lst (pax_cons (pe_clK c_BadName hr rfl (pv 0)) (pax_cons (pe_cl c_BadName hr rfl (pv 0)) (pax_cons (pe_clK c_NoThing hr rfl (pv 0)) (pax_cons (pe_cl c_NoThing hr rfl (pv 0)) (pax_cons (pe_clK c_NoHolder hr rfl (pv 0)) (pax_cons (pe_cl c_NoHolder hr rfl (pv 0)) pax_nil)))))))))))))), ?_⟩
    refine xs_new ?_ fun p1 x1 H1 s1 n1 l1 h1 => ?_
    · exact Nat.le_of_ble_eq_true rfl
    refine xs_more l1 h1 ?_ fun p2 x2 H2 s2 n2 l2 h2 => ?_
    · exact Nat.le_of_ble_eq_true rfl
    refine xs_more l2 h2 ?_ fun p3 x3 H3 s3 n3 l3 h3 => ?_
    · exact Nat.le_of_ble_eq_true rfl
    refine xs_more l3 h3 ?_ fun p4 x4 H4 s4 n4 l4 h4 => ?_
    · exact Nat.le_of_ble_eq_true rfl
    refine xs_ret l4 h4 ?_ fun p5 x5 H5 s5 n5 l5 h5 => ?_
    · exact Nat.le_of_ble_eq_true rfl
    have s0 := s1.trans (s2.trans (s3.trans s4))
    exact hQ p5 x5 H5 (s0.trans s5) (s0.free n5) l5 h5
theorem scOths : FnScope ["thing", "found"] ["thing"] (defScope sOths) := ⟨rfl, rfl, rfl, by decide +kernel, rfl, by decide +kernel, by decide +kernel⟩
theorem ok_oths {f : Addr} {fd : FuncData} (F : FnP K "_law_of_others" sOths f fd) (c_BadRule : Cl P w K mg base "BadRule" "number") (c_NotDone : Cl P w K mg base "NotDone" "number") (c_BadLine : Cl P w K mg base "BadLine" "line")
    (c_NamedTwice : Cl P w K mg base "NamedTwice" "name") (c_NoEnd : Cl P w K mg base "NoEnd" "name") (c_NotHeld : Cl P w K mg base "NotHeld" "name") : FnOk P w K mg base CX0 3 f fd ["thing"] (spXs (allO K)) := by
  refine F.ok scOths (fun vs H Q E h => ?_) (fun cdv A outer s H vs Q E hr h => ?_)
  · obtain ⟨y, rfl, _⟩ := h
    rfl
  · obtain ⟨y, rfl, hQ⟩ := h
    refine ⟨_, PSs.nox (pss_cons (ps_set (i := 1) scOths.nd rfl (Or.inl rfl) (pe_lst (pax_cons (pe_clK c_BadRule hr rfl (pv 0)) (pax_cons (pe_cl c_BadRule hr rfl (pv 0)) (pax_cons (pe_clK c_NotDone hr rfl (pv 0)) (pax_cons (pe_cl c_NotDone hr rfl (pv 0)) (pax_cons (pe_clK c_BadLine hr rfl (pv 0)) (pax_cons (pe_cl c_BadLine hr rfl (pv 0)) pax_nil))))))))
 (pss_one (ps_ret (pe_op op_cat (pv 1) (pe_lst (pax_cons (pe_clK c_NamedTwice hr rfl (pv 0)) (pax_cons (pe_cl c_NamedTwice hr rfl (pv 0)) (pax_cons (pe_clK c_NoEnd hr rfl (pv 0)) (pax_cons (pe_cl c_NoEnd hr rfl (pv 0)) (pax_cons (pe_clK c_NotHeld hr rfl (pv 0)) (pax_cons (pe_cl c_NotHeld hr rfl (pv 0)) pax_nil))))))))))), ?_⟩
    refine xs_new ?_ fun p1 x1 H1 s1 n1 l1 h1 => ?_
    · exact Nat.le_of_ble_eq_true rfl
    refine xs_ret l1 h1 ?_ fun p5 x5 H5 s5 n5 l5 h5 => ?_
    · exact Nat.le_of_ble_eq_true rfl
    exact hQ p5 x5 H5 (s1.trans s5) (s1.free n5) l5 h5
end
end K1
namespace K1
open PySem PySem.Spec PyProof.Rows L2 He Fh
abbrev sKinds : Stmt := top 31
/-- all classes, as _law_kinds asks for them -/
def nmA : List Str := ["BadKinds", "BadHandles", "BadRules", "BadStart", "BadCount", "NoRule", "NoKind", "BadPrices", "BadUntold", "BadWeights", "BadLetters", "BadTimes", "BadName", "NoThing", "NoHolder", "BadRule", "NotDone", "BadLine", "NamedTwice", "NoEnd", "NotHeld", "Nothing"]
/-- the classes' facts -/
structure Cls22 (P : Program) (w : World) (K : PySem.W.Frag) (mg : Str → Option Value) (base : Heap) : Prop where
  v : ∀ x ∈ nmV, Cl P w K mg base x "value"
  o : ∀ q ∈ nmO, Cl P w K mg base q.1 q.2
  n : Cl0 P w K mg base "Nothing"
section
variable {P : Program} {w : World} {K : PySem.W.Frag} {mg : Str → Option Value} {base : Heap}
theorem scKinds : FnScope ["error", "found"] ["error"] (defScope sKinds) := ⟨rfl, rfl, rfl, by decide +kernel, rfl, by decide +kernel, by decide +kernel⟩
theorem inV {P : Program} {x : Str} (T : Cls22 P w K mg base) (h : nmV.contains x = true) : Cl P w K mg base x "value" := T.v x (List.contains_iff_mem.mp h)
theorem inO {P : Program} {x f : Str} (T : Cls22 P w K mg base) (h : nmO.contains (x, f) = true) : Cl P w K mg base x f := T.o (x, f) (List.contains_iff_mem.mp h)
theorem ok_kinds {f : Addr} {fd : FuncData} (F : FnP K "_law_kinds" sKinds f fd) (T : Cls22 P w K mg base) (g_isinstance : mg "isinstance" = none) : FnOk P w K mg base CX0 3 f fd ["error"] (spKits K nmA) := by
  have c_BadKinds := inV (x := "BadKinds") T (by decide +kernel)
  have c_BadHandles := inV (x := "BadHandles") T (by decide +kernel)
  have c_BadRules := inV (x := "BadRules") T (by decide +kernel)
  have c_BadStart := inV (x := "BadStart") T (by decide +kernel)
  have c_BadCount := inV (x := "BadCount") T (by decide +kernel)
  have c_NoRule := inV (x := "NoRule") T (by decide +kernel)
  have c_NoKind := inV (x := "NoKind") T (by decide +kernel)
  have c_BadPrices := inV (x := "BadPrices") T (by decide +kernel)
  have c_BadUntold := inV (x := "BadUntold") T (by decide +kernel)
  have c_BadWeights := inV (x := "BadWeights") T (by decide +kernel)
  have c_BadLetters := inV (x := "BadLetters") T (by decide +kernel)
  have c_BadTimes := inV (x := "BadTimes") T (by decide +kernel)
  have c_BadName := inV (x := "BadName") T (by decide +kernel)
  have c_NoThing := inV (x := "NoThing") T (by decide +kernel)
  have c_NoHolder := inV (x := "NoHolder") T (by decide +kernel)
  have c_BadRule := inO (x := "BadRule") (f := "number") T (by decide +kernel)
  have c_NotDone := inO (x := "NotDone") (f := "number") T (by decide +kernel)
  have c_BadLine := inO (x := "BadLine") (f := "line") T (by decide +kernel)
  have c_NamedTwice := inO (x := "NamedTwice") (f := "name") T (by decide +kernel)
  have c_NoEnd := inO (x := "NoEnd") (f := "name") T (by decide +kernel)
  have c_NotHeld := inO (x := "NotHeld") (f := "name") T (by decide +kernel)
  have c_Nothing := T.n
  refine F.ok scKinds (fun vs H Q E h => ?_) (fun cdv A outer s H vs Q E hr h => ?_)
  · obtain ⟨v, C, kb, rfl, _⟩ := h
    rfl
  · obtain ⟨v, C, kb, rfl, hx, hk, hQ⟩ := h
    refine ⟨_, PSs.nox (pss_cons (ps_set (i := 1) scKinds.nd rfl (Or.inl rfl) (pe_lst (pak_cons (pe_callB (call_isX (K := K)) (by rfl) g_isinstance (by decide +kernel) (pa_cons (pv 0) (pa_cons (pe_glob (v := .ref _) (by rfl) c_BadKinds.at_ rfl) pa_nil))) (pak_cons (pe_callB (call_isX (K := K)) (by rfl) g_isinstance (by decide +kernel) (pa_cons (pv 0) (pa_cons (pe_glob (v := .ref _) (by rfl) c_BadHandles.at_ rfl) pa_nil))) (pak_cons (pe_callB (call_isX (K := K)) (by rfl) g_isinstance (by decide +kernel) (pa_cons (pv 0) (pa_cons (pe_glob (v := .ref _) (by rfl) c_BadRules.at_ rfl) pa_nil))) (pak_cons (pe_callB (call_isX (K := K)) (by rfl) g_isinstance (by decide +kernel) (pa_cons (pv 0) (pa_cons (pe_glob (v := .ref _) (by rfl) c_BadStart.at_ rfl) pa_nil))) pak_nil))))))
 (pss_cons (ps_set (i := 1) scKinds.nd rfl (Or.inl rfl) (pe_op op_cat (pv 1) (pe_lst (pak_cons (pe_callB (call_isX (K := K)) (by rfl) g_isinstance (by decide +kernel) (pa_cons (pv 0) (pa_cons (pe_glob (v := .ref _) (by rfl) c_BadCount.at_ rfl) pa_nil))) (pak_cons (pe_callB (call_isX (K := K)) (by rfl) g_isinstance (by decide +kernel) (pa_cons (pv 0) (pa_cons (pe_glob (v := .ref _) (by rfl) c_NoRule.at_ rfl) pa_nil))) (pak_cons (pe_callB (call_isX (K := K)) (by rfl) g_isinstance (by decide +kernel) (pa_cons (pv 0) (pa_cons (pe_glob (v := .ref _) (by rfl) c_NoKind.at_ rfl) pa_nil))) (pak_cons (pe_callB (call_isX (K := K)) (by rfl) g_isinstance (by decide +kernel) (pa_cons (pv 0) (pa_cons (pe_glob (v := .ref _) (by rfl) c_BadPrices.at_ rfl) pa_nil))) pak_nil)))))))
 (pss_cons (ps_set (i := 1) scKinds.nd rfl (Or.inl rfl) (pe_op op_cat (pv 1) (pe_lst (pak_cons (pe_callB (call_isX (K := K)) (by rfl) g_isinstance (by decide +kernel) (pa_cons (pv 0) (pa_cons (pe_glob (v := .ref _) (by rfl) c_BadUntold.at_ rfl) pa_nil))) (pak_cons (pe_callB (call_isX (K := K)) (by rfl) g_isinstance (by decide +kernel) (pa_cons (pv 0) (pa_cons (pe_glob (v := .ref _) (by rfl) c_BadWeights.at_ rfl) pa_nil))) (pak_cons (pe_callB (call_isX (K := K)) (by rfl) g_isinstance (by decide +kernel) (pa_cons (pv 0) (pa_cons (pe_glob (v := .ref _) (by rfl) c_BadLetters.at_ rfl) pa_nil))) (pak_cons (pe_callB (call_isX (K := K)) (by rfl) g_isinstance (by decide +kernel) (pa_cons (pv 0) (pa_cons (pe_glob (v := .ref _) (by rfl) c_BadTimes.at_ rfl) pa_nil))) pak_nil)))))))
 (pss_cons (ps_set (i := 1) scKinds.nd rfl (Or.inl rfl) (pe_op op_cat (pv 1) (pe_lst (pak_cons (pe_callB (call_isX (K := K)) (by rfl) g_isinstance (by decide +kernel) (pa_cons (pv 0) (pa_cons (pe_glob (v := .ref _) (by rfl) c_BadName.at_ rfl) pa_nil))) (pak_cons (pe_callB (call_isX (K := K)) (by rfl) g_isinstance (by decide +kernel) (pa_cons (pv 0) (pa_cons (pe_glob (v := .ref _) (by rfl) c_NoThing.at_ rfl) pa_nil))) (pak_cons (pe_callB (call_isX (K := K)) (by rfl) g_isinstance (by decide +kernel) (pa_cons (pv 0) (pa_cons (pe_glob (v := .ref _) (by rfl) c_NoHolder.at_ rfl) pa_nil))) (pak_cons (pe_callB (call_isX (K := K)) (by rfl) g_isinstance (by decide +kernel) (pa_cons (pv 0) (pa_cons (pe_glob (v := .ref _) (by rfl) c_BadRule.at_ rfl) pa_nil))) pak_nil)))))))
 (pss_cons (ps_set (i := 1) scKinds.nd rfl (Or.inl rfl) (pe_op op_cat (pv 1) (pe_lst (pak_cons (pe_callB (call_isX (K := K)) (by rfl) g_isinstance (by decide +kernel) (pa_cons (pv 0) (pa_cons (pe_glob (v := .ref _) (by rfl) c_NotDone.at_ rfl) pa_nil))) (pak_cons (pe_callB (call_isX (K := K)) (by rfl) g_isinstance (by decide +kernel) (pa_cons (pv 0) (pa_cons (pe_glob (v := .ref _) (by rfl) c_BadLine.at_ rfl) pa_nil))) (pak_cons (pe_callB (call_isX (K := K)) (by rfl) g_isinstance (by decide +kernel) (pa_cons (pv 0) (pa_cons (pe_glob (v := .ref _) (by rfl) c_NamedTwice.at_ rfl) pa_nil))) (pak_cons (pe_callB (call_isX (K := K)) (by rfl) g_isinstance (by decide +kernel) (pa_cons (pv 0) (pa_cons (pe_glob (v := .ref _) (by rfl) c_NoEnd.at_ rfl) pa_nil))) pak_nil)))))))
 (pss_one (ps_ret (pe_op op_cat (pv 1) (pe_lst (pak_cons (pe_callB (call_isX (K := K)) (by rfl) g_isinstance (by decide +kernel) (pa_cons (pv 0) (pa_cons (pe_glob (v := .ref _) (by rfl) c_NotHeld.at_ rfl) pa_nil))) (pak_cons (pe_callB (call_isX (K := K)) (by rfl) g_isinstance (by decide +kernel) (pa_cons (pv 0) (pa_cons (pe_glob (v := .ref _) (by rfl) c_Nothing.at_ rfl) pa_nil))) pak_nil))))))))))), ?_⟩
    refine ks_new hx (hk.sub ?_) ?_ fun p1 H1 s1 n1 l1 => ?_
    · decide +kernel
    · exact Nat.le_of_ble_eq_true rfl
    refine ks_more l1 (hx.up s1) (hk.sub ?_) ?_ fun p2 H2 s2 n2 l2 => ?_
    · decide +kernel
    · exact Nat.le_of_ble_eq_true rfl
    refine ks_more l2 (hx.up (s1.trans s2)) (hk.sub ?_) ?_ fun p3 H3 s3 n3 l3 => ?_
    · decide +kernel
    · exact Nat.le_of_ble_eq_true rfl
    refine ks_more l3 (hx.up (s1.trans (s2.trans s3))) (hk.sub ?_) ?_ fun p4 H4 s4 n4 l4 => ?_
    · decide +kernel
    · exact Nat.le_of_ble_eq_true rfl
    refine ks_more l4 (hx.up (s1.trans (s2.trans (s3.trans s4)))) (hk.sub ?_) ?_ fun p5 H5 s5 n5 l5 => ?_
    · decide +kernel
    · exact Nat.le_of_ble_eq_true rfl
    have s0 := s1.trans (s2.trans (s3.trans (s4.trans s5)))
    refine ks_ret l5 (hx.up s0) (hk.sub ?_) ?_ fun p6 H6 s6 n6 l6 => ?_
    · decide +kernel
    · exact Nat.le_of_ble_eq_true rfl
    exact hQ p6 H6 (s0.trans s6) (s0.free n6) l6
end
end K1
namespace K1
open PySem PySem.Spec PyProof.Rows L2 He Fh
def zsA : List (List V) := (List.range 22).map fun (j : Nat) => (List.range 22).map fun (i : Nat) => V.bl (decide (i = j))
theorem zsA_nm : zsA = nmA.map fun y => nmA.map fun x => V.bl (decide (x = y)) := by
  have h : ((List.range 22).map fun (j : Nat) => (List.range 22).map fun (i : Nat) => decide (i = j)) = nmA.map fun y => nmA.map fun x => decide (x = y) := by decide +kernel
  have h2 := congrArg (List.map (List.map V.bl)) h
  simp only [List.map_map, Function.comp_def] at h2
  exact h2
theorem zsA_at {j : Nat} {z : List V} (h : zsA[j]? = some z) : z = (List.range 22).map fun (i : Nat) => V.bl (decide (i = j)) := by
  unfold zsA at h
  rw [List.getElem?_map] at h
  cases e : (List.range 22)[j]? with
  | none =>
    rw [e] at h
    cases h
  | some k =>
    rw [e] at h
    cases h
    have hk := List.getElem?_eq_some_iff.mp e
    obtain ⟨h1, h2⟩ := hk
    rw [List.getElem_range] at h2
    subst h2
    rfl
abbrev sLaw : Stmt := top 32
section
variable {P : Program} {w : World} {K : PySem.W.Frag} {mg : Str → Option Value} {base : Heap}
theorem scLaw : FnScope ["script", "start", "tape", "thing", "fields", "some", "valued", "others", "one", "place", "at"] ["script"] (defScope sLaw) := ⟨rfl, rfl, rfl, by decide +kernel, rfl, by decide +kernel, by decide +kernel⟩
theorem ok_law {f f1 f2 f3 f4 f5 : Addr} {fd fd1 fd2 fd3 fd4 fd5 : FuncData} (F : FnP K "law" sLaw f fd) (T : Cls22 P w K mg base)
    (G_law_tape : FnOk P w K mg base CX0 1 f1 fd1 ["script", "first"] (spTape K)) (m_law_tape : mg "_law_tape" = some (.ref f1)) (k_law_tape : PySem.W.keepIn K (.ref f1) = true) (b_law_tape : Binds K fd1 ["script", "first"] [])
    (G_law_any : FnOk P w K mg base CX0 3 f2 fd2 ["tape"] spAny) (m_law_any : mg "_law_any" = some (.ref f2)) (k_law_any : PySem.W.keepIn K (.ref f2) = true) (b_law_any : Binds K fd2 ["tape"] [])
    (G_law_of_values : FnOk P w K mg base CX0 3 f3 fd3 ["thing"] (spXs (allV K))) (m_law_of_values : mg "_law_of_values" = some (.ref f3)) (k_law_of_values : PySem.W.keepIn K (.ref f3) = true) (b_law_of_values : Binds K fd3 ["thing"] [])
    (G_law_of_others : FnOk P w K mg base CX0 3 f4 fd4 ["thing"] (spXs (allO K))) (m_law_of_others : mg "_law_of_others" = some (.ref f4)) (k_law_of_others : PySem.W.keepIn K (.ref f4) = true) (b_law_of_others : Binds K fd4 ["thing"] [])
    (G_law_kinds : FnOk P w K mg base CX0 3 f5 fd5 ["error"] (spKits K nmA)) (m_law_kinds : mg "_law_kinds" = some (.ref f5)) (k_law_kinds : PySem.W.keepIn K (.ref f5) = true) (b_law_kinds : Binds K fd5 ["error"] [])
    (g_range : mg "range" = none) (g_max : mg "max" = none) (g_min : mg "min" = none) (g_len : mg "len" = none) (g_repr : mg "repr" = none) (g_isinstance : mg "isinstance" = none) (g_ValueError : mg "ValueError" = none) (m_HandleError : mg "HandleError" = some (.ref (ga K "HandleError")))
    (hkit : ∀ y ∈ nmA, Kits K (ga K y) (fun x => decide (x = y)) nmA) (hHE : ∀ y ∈ nmA, PySem.W.kitOne K (.ref (ga K y)) (.ref (ga K "HandleError")) = some true) (hVE : ∀ y ∈ nmA, PySem.W.kitOne K (.ref (ga K y)) (.type "ValueError") = some true) :
    FnG P w K mg base CX0 4 f fd ["script"] (spLaw K) := by
  have c_Nothing := T.n
  refine funG F scLaw (fun vs H Q E h => ?_) (fun cdv A outer s H vs Q E hg hr h => ?_)
  · obtain ⟨a, ns, rfl, _⟩ := h
    rfl
  · obtain ⟨a, ns, rfl, hS, hQ⟩ := h
    have hgd : (A.deeper (envOfC "law" (defScope sLaw) s.heap.objs.size f cdv)).guards = some [] := hg
    have hu64 := hr.units
    have r_law_any := hr
    have r_law_of_values := hr
    have r_law_of_others := hr
    have r_law_kinds := hr
    have r_law_tape : Room 1 _ := hr.mono (by decide)
    have hr : Room 2 _ := hr.mono (by decide)
    refine ⟨_, PSs.nox (pss_cons (ps_for PassesOwn.never rfl (pi_range1 (by rfl) g_range (pa_cons (pe_callB (call_max2 rfl) (by rfl) g_max (by decide +kernel) (pa_cons pe_int (pa_cons (pe_callB (call_min2 rfl) (by rfl) g_min (by decide +kernel) (pa_cons pe_int (pa_cons (pe_callB call_len (by rfl) g_len (by decide +kernel) (pa_cons (pv 0) pa_nil)) pa_nil))) pa_nil))) pa_nil)) (pg_name (i := 1) scLaw.nd rfl (Or.inl rfl))
 (pss_cons (ps_set (i := 2) scLaw.nd rfl (Or.inl rfl) (pe_call G_law_tape r_law_tape rfl m_law_tape k_law_tape b_law_tape .nil pass0 (pa_cons (pv 0) (pa_cons (pv 1) pa_nil))))
 (pss_cons (ps_set (i := 3) scLaw.nd rfl (Or.inl rfl) (pe_call G_law_any r_law_any rfl m_law_any k_law_any b_law_any .nil pass0 (pa_cons (pv 2) pa_nil)))
 (pss_cons (ps_par (i := 6) (j := 7) (by rfl) scLaw.nd rfl rfl (by decide) rfl rfl (pa_cons (pe_call G_law_of_values r_law_of_values rfl m_law_of_values k_law_of_values b_law_of_values .nil pass0 (pa_cons (pv 3) pa_nil)) (pa_cons (pe_call G_law_of_others r_law_of_others rfl m_law_of_others k_law_of_others b_law_of_others .nil pass0 (pa_cons (pv 3) pa_nil)) pa_nil)) (by rfl))
 (pss_cons (ps_if (pt_cmpR (op_neD hu64) (pe_lc (own := [("one", 8)]) (g := (gName 8)) (by rfl) scLaw.nd (pi_list (pv 6)) (blkOk_by (own := [("one", 8)]) (N := ["script", "start", "tape", "thing", "fields", "some", "valued", "others", "one", "place", "at"]) (sc := defScope sLaw) (by decide +kernel)) (fun _ _ _ _ _ => pg_name (i := 8) scLaw.nd rfl (by first | exact Or.inl rfl | exact Or.inr rfl)) (fun _ _ _ _ _ => pts_nil) (fun _ _ _ _ _ => (pe_callB (call_repr hgd hu64) (by rfl) g_repr (by decide +kernel) (pa_cons (pe_exF (K := K) (pv 8)) pa_nil)))) (pe_op op_rep (pe_lst (pa_cons (pe_callB (call_repr hgd hu64) (by rfl) g_repr (by decide +kernel) (pa_cons (pv 3) pa_nil)) pa_nil)) pe_int) (nomark _))
 (pss_one (ps_ret pe_bl)) pss_nil)
 (pss_cons (ps_set (i := 4) scLaw.nd rfl (Or.inl rfl) (pe_op op_cat (pe_op op_cat (pe_lc (own := [("one", 8)]) (g := (gName 8)) (by rfl) scLaw.nd (pi_list (pe_slice sl_list (pv 7) po_none (po_some pe_int))) (blkOk_by (own := [("one", 8)]) (N := ["script", "start", "tape", "thing", "fields", "some", "valued", "others", "one", "place", "at"]) (sc := defScope sLaw) (by decide +kernel)) (fun _ _ _ _ _ => pg_name (i := 8) scLaw.nd rfl (by first | exact Or.inl rfl | exact Or.inr rfl)) (fun _ _ _ _ _ => pts_nil) (fun _ _ _ _ _ => (pe_exF (K := K) (pv 8)))) (pe_lc (own := [("one", 8)]) (g := (gName 8)) (by rfl) scLaw.nd (pi_list (pe_slice sl_list (pv 7) (po_some pe_int) (po_some pe_int))) (blkOk_by (own := [("one", 8)]) (N := ["script", "start", "tape", "thing", "fields", "some", "valued", "others", "one", "place", "at"]) (sc := defScope sLaw) (by decide +kernel)) (fun _ _ _ _ _ => pg_name (i := 8) scLaw.nd rfl (by first | exact Or.inl rfl | exact Or.inr rfl)) (fun _ _ _ _ _ => pts_nil) (fun _ _ _ _ _ => (pe_exF (K := K) (pv 8))))) (pe_lc (own := [("one", 8)]) (g := (gName 8)) (by rfl) scLaw.nd (pi_list (pe_slice sl_list (pv 7) (po_some pe_int) po_none)) (blkOk_by (own := [("one", 8)]) (N := ["script", "start", "tape", "thing", "fields", "some", "valued", "others", "one", "place", "at"]) (sc := defScope sLaw) (by decide +kernel)) (fun _ _ _ _ _ => pg_name (i := 8) scLaw.nd rfl (by first | exact Or.inl rfl | exact Or.inr rfl)) (fun _ _ _ _ _ => pts_nil) (fun _ _ _ _ _ => (pe_exF (K := K) (pv 8))))))
 (pss_cons (ps_if (pt_cmpR (op_neD hu64) (pe_lc (own := [("one", 8)]) (g := (gName 8)) (by rfl) scLaw.nd (pi_list (pv 4)) (blkOk_by (own := [("one", 8)]) (N := ["script", "start", "tape", "thing", "fields", "some", "valued", "others", "one", "place", "at"]) (sc := defScope sLaw) (by decide +kernel)) (fun _ _ _ _ _ => pg_name (i := 8) scLaw.nd rfl (by first | exact Or.inl rfl | exact Or.inr rfl)) (fun _ _ _ _ _ => pts_nil) (fun _ _ _ _ _ => (pe_callB (call_repr hgd hu64) (by rfl) g_repr (by decide +kernel) (pa_cons (pv 8) pa_nil)))) (pe_op op_rep (pe_lst (pa_cons (pe_callB (call_repr hgd hu64) (by rfl) g_repr (by decide +kernel) (pa_cons (pv 3) pa_nil)) pa_nil)) pe_int) (nomark _))
 (pss_one (ps_ret pe_bl)) pss_nil)
 (pss_cons (ps_set (i := 5) scLaw.nd rfl (Or.inl rfl) (pe_op op_cat (pe_op op_cat (pe_step2 (pv 6)) (pe_step2 (pv 7))) (pe_lst (pa_cons (pe_cl0 c_Nothing hr rfl) pa_nil))))
 (pss_cons (ps_if (pt_cmpR (op_neD hu64) (pe_lc (own := [("one", 8)]) (g := (gName 8)) (by rfl) scLaw.nd (pi_list (pv 5)) (blkOk_by (own := [("one", 8)]) (N := ["script", "start", "tape", "thing", "fields", "some", "valued", "others", "one", "place", "at"]) (sc := defScope sLaw) (by decide +kernel)) (fun _ _ _ _ _ => pg_name (i := 8) scLaw.nd rfl (by first | exact Or.inl rfl | exact Or.inr rfl)) (fun _ _ _ _ _ => pts_nil) (fun _ _ _ _ _ => (pe_call G_law_kinds r_law_kinds rfl m_law_kinds k_law_kinds b_law_kinds .nil pass0 (pa_cons (pv 8) pa_nil)))) (pe_lc (own := [("place", 9)]) (g := (gName 9)) (by rfl) scLaw.nd (pi_range1 (by rfl) g_range (pa_cons pe_int pa_nil)) (blkOk_by (own := [("place", 9)]) (N := ["script", "start", "tape", "thing", "fields", "some", "valued", "others", "one", "place", "at"]) (sc := defScope sLaw) (by decide +kernel)) (fun _ _ _ _ _ => pg_name (i := 9) scLaw.nd rfl (by first | exact Or.inl rfl | exact Or.inr rfl)) (fun _ _ _ _ _ => pts_nil) (fun _ _ _ _ _ => (pe_lc (own := [("at", 10)]) (g := (gName 10)) (by rfl) scLaw.nd (pi_range1 (by rfl) g_range (pa_cons pe_int pa_nil)) (blkOk_by (own := [("at", 10)]) (N := ["script", "start", "tape", "thing", "fields", "some", "valued", "others", "one", "place", "at"]) (by rfl)) (fun _ _ _ _ _ => pg_name (i := 10) scLaw.nd rfl (by first | exact Or.inl rfl | exact Or.inr rfl)) (fun _ _ _ _ _ => pts_nil) (fun _ _ _ _ _ => (pe_cmpR op_eq (pv 10) (pv 9) (nomark _)))))) (nomark _))
 (pss_one (ps_ret pe_bl)) pss_nil)
 (pss_one (ps_if (pt_cmpR (op_neD hu64) (pe_lc (own := [("one", 8)]) (g := (gName 8)) (by rfl) scLaw.nd (pi_list (pv 5)) (blkOk_by (own := [("one", 8)]) (N := ["script", "start", "tape", "thing", "fields", "some", "valued", "others", "one", "place", "at"]) (sc := defScope sLaw) (by decide +kernel)) (fun _ _ _ _ _ => pg_name (i := 8) scLaw.nd rfl (by first | exact Or.inl rfl | exact Or.inr rfl)) (fun _ _ _ _ _ => pts_nil) (fun _ _ _ _ _ => (pe_and (pe_callB (call_isX (K := K)) (by rfl) g_isinstance (by decide +kernel) (pa_cons (pv 8) (pa_cons (pe_glob (v := .ref _) (by rfl) m_HandleError rfl) pa_nil))) (pe_one (pe_callB (call_isX (K := K)) (by rfl) g_isinstance (by decide +kernel) (pa_cons (pv 8) (pa_cons (pe_bltn (v := .ty "ValueError") (by rfl) g_ValueError (by decide +kernel) rfl) pa_nil))))))) (pe_op op_rep (pe_lst (pa_cons pe_bl pa_nil)) pe_int) (nomark _))
 (pss_one (ps_ret pe_bl)) pss_nil)))))))))))
 (pss_one (ps_ret pe_bl))), ?_⟩
    refine ⟨_, rfl, _, (ns.map V.int).length, rfl, .inl ⟨_, hS.at_, rfl⟩, _, _, rfl, _, _, rfl, ?_⟩
    have hfew := hS.few
    have hlen : (ns.map V.int).length = ns.length := List.length_map _
    refine ⟨_, rfl, by split <;> (try split) <;> omega, by split <;> (try split) <;> omega, ?_⟩
    refine for_range (lo := 0) (fun _ σ H' => Same H H' ∧ ∃ o1 o2 o3 o4 o5 o6 o7 o8 o9 o10 : Option V, σ = [some (.ref a), o1, o2, o3, o4, o5, o6, o7, o8, o9, o10]) ⟨Same.refl H, none, none, none, none, none, none, none, none, none, none, rfl⟩ ?_ ?_
    · rintro i σ H1 hi ⟨s1, o1, o2, o3, o4, o5, o6, o7, o8, o9, o10, rfl⟩
      have hi3 : i ≤ 62 := by
        revert hi
        split <;> (try split) <;> omega
      -- tape, thing
      refine ⟨_, rfl, _, rfl, a, ns, i, by rw [Int.zero_add]; rfl, hS.up s1, hi3, fun t H2 n2 s2 hT => ?_⟩
      refine ⟨_, rfl, t, rfl, hT, fun v d H3 hd hfr hv => ?_⟩
      have s3 : Same H1 H3 := fun b o e => hfr b o (ne_of_none e n2) (s2 b o e)
      -- the exceptions
      refine ⟨_, rfl, v, rfl, fun p1 x1 H4 s4 n4 l4 h4 => ⟨_, rfl, v, rfl, fun p2 x2 H5 s5 n5 l5 h5 => ⟨_, _, rfl, ?_⟩⟩⟩
      have hv5 : Dq H5 d v := Dq.up (s4.trans s5) _ _ hv
      have h45 := h4.up s5
      have len1 : x1.length = 30 := h4.len
      have len2 : x2.length = 12 := h5.len
      have hok : okV (.str d.shown) = true := hd.ok
      have rep : ∀ {n : Nat}, ∀ u ∈ List.replicate n (V.str d.shown), okV u = true := fun u hu => by rw [List.eq_of_mem_replicate hu]; exact hok
      have repf : ∀ {n : Nat}, ∀ u ∈ List.replicate n (V.str d.shown), flatV u = true := fun u hu => okV_flat (rep u hu)
      -- the first test
      refine ⟨_, rfl, p1, rfl, ⟨_, SqL.of (s5 _ _ l4)⟩, fun D hD => ?_⟩
      refine lc_flat (xs := x1) (List.replicate 30 (.str d.shown)) (by rw [len1]; rfl) (by omega) (SqL.of (s5 _ _ l4)) hD (fun j x y H6 Q6 hx hy s6 q6 => ?_) fun H6 s6 l6 => ?_
      · obtain ⟨c, hc, ef, hE⟩ := (h45.up s6).field (f := "value") (by
          intro c hc
          obtain ⟨nm, _, hm⟩ := List.mem_flatMap.mp hc
          simp only [List.mem_cons, List.not_mem_nil, or_false, or_self] at hm
          rw [hm]) hx
        obtain ⟨nm, hnm, hm⟩ := List.mem_flatMap.mp hc
        simp only [List.mem_cons, List.not_mem_nil, or_false, or_self] at hm
        subst hm
        have c1 := T.v nm hnm
        refine ⟨x, rfl, _, v, c1.ex.xf, c1.no, hE, v, d, rfl, Dq.up s6 _ _ hv5, hd, ?_⟩
        rw [List.getElem?_replicate] at hy
        split at hy
        · cases hy
          exact q6 H6 (Same.refl H6)
        · cases hy
      refine ⟨_, rfl, v, d, rfl, Dq.up s6 _ _ hv5, hd, (by show 1 ≤ sizeLine; decide), fun q hq => ⟨q, 30, _, rfl, rfl, upd_same, by decide, by decide, (by show 1 * 30 ≤ sizeLine; decide), fun r hr => ?_⟩⟩
      have s7 := s6.trans ((same_upd (o := .lst [V.str d.shown]) hq).trans (same_upd (o := .lst (List.replicate (30 : Int).toNat [V.str d.shown]).flatten) hr))
      have l7 := same_upd (o := .lst (List.replicate (30 : Int).toNat [V.str d.shown]).flatten) hr _ _ (same_upd (o := .lst [V.str d.shown]) hq _ _ l6)
      refine ne_same (d := .list ((List.replicate 30 (V.str d.shown)).map toD)) (dp_lst (SqL.of l7) repf) (dp_lst (SqL.of upd_same) repf) (shaped_flat rep).1 ⟨_, rfl, ?_⟩
      refine iteF ?_
      clear l7
      generalize upd (upd H6 q (.lst [V.str d.shown])) r (.lst (List.replicate (30 : Int).toNat [V.str d.shown]).flatten) = H7 at s7
      clear hr hq l6 s6 hD
      -- the fields of the others
      have l27 : SqL K H7 p2 x2 := SqL.of (s7 _ _ l5)
      have part : ∀ (f : Str) (lo hi : Option Int) (cs : List (Addr × Str)) (m : Nat) (Ha : Hp), Same H7 Ha → (∀ c ∈ cs, c.2 = f ∧ c ∈ allO K) → cs.length = m → m ≤ 100 → XAll H5 v cs (cutV x2 lo hi) → ∀ (qa : Addr), Ha qa = none → ∀ (D : Addr), upd Ha qa (.lst (cutV x2 lo hi)) D = none → ∀ Qd : Hp → Prop,
          (∀ Hb, Same Ha Hb → Ha D = none → Hb D = some (.lst (List.replicate m v)) → Qd Hb) →
          LcGoal K qa 8 (tExF K f (tVar 8)) [some (.ref a), some (.int (0 + i)), some (.ref t), some v, o4, o5, some (.ref p1), some (.ref p2), o8, o9, o10] (upd Ha qa (.lst (cutV x2 lo hi))) D Qd := by
        intro f lo hi cs m Ha sa hcs hm hm2 hx qa na D hD Qd hq
        have sq := same_upd (o := .lst (cutV x2 lo hi)) na
        have lc := hx.len
        refine lc_flat (xs := cutV x2 lo hi) (List.replicate m v) (by rw [List.length_replicate, lc, hm]) (by rw [lc, hm]; omega) (SqL.of upd_same) hD (fun j x y H8 Q8 hx8 hy s8 q8 => ?_) fun H8 s8 l8 => ?_
        · obtain ⟨c, hc, ef, hE⟩ := (hx.up (s7.trans (sa.trans (sq.trans s8)))).field (f := f) (fun c hc => (hcs c hc).1) hx8
          obtain ⟨nm, hnm, hmm⟩ := List.mem_flatMap.mp (hcs c hc).2
          simp only [List.mem_cons, List.not_mem_nil, or_false, or_self] at hmm
          subst hmm
          have c1 := T.o nm hnm
          have ef' : nm.2 = f := ef
          rw [ef'] at c1
          refine ⟨x, rfl, _, v, c1.ex.xf, c1.no, hE, ?_⟩
          rw [List.getElem?_replicate] at hy
          split at hy
          · cases hy
            exact q8 H8 (Same.refl H8)
          · cases hy
        · exact hq H8 (sq.trans s8) (sq.free hD) l8
      have cut : ∀ (lo hi : Option Int) (i1 i2 : Nat), HT.sIx 12 0 lo = i1 → HT.sIx 12 12 hi - HT.sIx 12 0 lo = i2 → XAll H5 v (((allO K).drop i1).take i2) (cutV x2 lo hi) := by
        intro lo hi i1 i2 e1 e2
        unfold cutV
        rw [len2, e2, e1]
        exact (h5.drop i1).take i2
      have sub : ∀ (f : Str) (i1 i2 : Nat), (∀ q ∈ ((nmO.flatMap fun q => [q, q]).drop i1).take i2, q.2 = f) → ∀ c ∈ ((allO K).drop i1).take i2, c.2 = f ∧ c ∈ allO K := by
        intro f i1 i2 h c hc
        have e : ((allO K).drop i1).take i2 = (((nmO.flatMap fun q => [q, q]).drop i1).take i2).map fun q => (ga K q.1, q.2) := by
          rw [List.map_take, List.map_drop]
          rfl
        refine ⟨?_, List.mem_of_mem_drop (List.mem_of_mem_take hc)⟩
        rw [e] at hc
        obtain ⟨q, hq, rfl⟩ := List.mem_map.mp hc
        exact h q hq
      refine ⟨_, rfl, 4, rfl, p2, x2, rfl, l27, fun qa hqa => ⟨qa, rfl, ⟨_, SqL.of upd_same⟩, fun D hD => ?_⟩⟩
      refine part "number" none (some 4) _ 4 H7 (Same.refl H7) (sub "number" 0 4 (by decide +kernel)) rfl (by decide) (cut none (some 4) 0 4 rfl rfl) qa hqa D hD _ fun H8 s8 n8 l8 => ?_
      refine ⟨_, rfl, 4, rfl, 6, rfl, p2, x2, rfl, s8.seq l27, fun qb hqb => ⟨qb, rfl, ⟨_, SqL.of upd_same⟩, fun D2 hD2 => ?_⟩⟩
      refine part "line" (some 4) (some 6) _ 2 H8 s8 (sub "line" 4 2 (by decide +kernel)) rfl (by decide) (cut (some 4) (some 6) 4 2 rfl rfl) qb hqb D2 hD2 _ fun H9 s9 n9 l9 => ?_
      refine ⟨D, D2, _, _, rfl, rfl, s9 _ _ l8, l9, (by show 4 + 2 ≤ sizeLine; decide), fun qc hqc => ?_⟩
      have s10 := (s8.trans s9).trans (same_upd (o := .lst (List.replicate 4 v ++ List.replicate 2 v)) hqc)
      refine ⟨_, rfl, 6, rfl, p2, x2, rfl, s10.seq l27, fun qd hqd => ⟨qd, rfl, ⟨_, SqL.of upd_same⟩, fun D3 hD3 => ?_⟩⟩
      refine part "name" (some 6) none _ 6 _ s10 (sub "name" 6 6 (by decide +kernel)) rfl (by decide) (cut (some 6) none 6 6 rfl rfl) qd hqd D3 hD3 _ fun H11 s11 n11 l11 => ?_
      refine ⟨qc, D3, _, _, rfl, rfl, s11 _ _ upd_same, l11, (by show 6 + 6 ≤ sizeLine; decide), fun fl hfl => ?_⟩
      have s12 := s10.trans (s11.trans (same_upd (o := .lst (List.replicate 4 v ++ List.replicate 2 v ++ List.replicate 6 v)) hfl))
      have l12 : upd H11 fl (.lst (List.replicate 4 v ++ List.replicate 2 v ++ List.replicate 6 v)) fl = some (.lst (List.replicate 12 v)) := upd_same
      generalize upd H11 fl (.lst (List.replicate 4 v ++ List.replicate 2 v ++ List.replicate 6 v)) = H12 at s12 l12
      -- the second test
      refine ⟨_, rfl, fl, rfl, ⟨_, SqL.of l12⟩, fun E1 hE1 => ?_⟩
      refine lc_flat (xs := List.replicate 12 v) (List.replicate 12 (.str d.shown)) rfl (by show 12 ≤ 100000; decide) (SqL.of l12) hE1 (fun j x y H13 Q13 hx hy s13 q13 => ?_) fun H13 s13 l13 => ?_
      · rw [List.getElem?_replicate] at hx hy
        split at hx
        · rename_i hj
          rw [if_pos hj] at hy
          cases hx
          cases hy
          exact ⟨v, rfl, v, d, rfl, Dq.up (s7.trans (s12.trans s13)) _ _ hv5, hd, q13 H13 (Same.refl H13)⟩
        · cases hx
      refine ⟨_, rfl, v, d, rfl, Dq.up (s7.trans (s12.trans s13)) _ _ hv5, hd, (by show 1 ≤ sizeLine; decide), fun q hq => ⟨q, 12, _, rfl, rfl, upd_same, by decide, by decide, (by show 1 * 12 ≤ sizeLine; decide), fun r hr => ?_⟩⟩
      have s14 := s13.trans ((same_upd (o := .lst [V.str d.shown]) hq).trans (same_upd (o := .lst (List.replicate (12 : Int).toNat [V.str d.shown]).flatten) hr))
      have l14 := same_upd (o := .lst (List.replicate (12 : Int).toNat [V.str d.shown]).flatten) hr _ _ (same_upd (o := .lst [V.str d.shown]) hq _ _ l13)
      refine ne_same (d := .list ((List.replicate 12 (V.str d.shown)).map toD)) (dp_lst (SqL.of l14) repf) (dp_lst (SqL.of upd_same) repf) (shaped_flat rep).1 ⟨_, rfl, ?_⟩
      refine iteF ?_
      have s15 := s7.trans (s12.trans s14)
      clear part cut sub l14
      generalize upd (upd H13 q (.lst [V.str d.shown])) r (.lst (List.replicate (12 : Int).toNat [V.str d.shown]).flatten) = H15 at s15
      -- one of each
      refine ⟨_, rfl, p1, x1, rfl, SqL.of (s15 _ _ (s5 _ _ l4)), fun ra hra => ?_⟩
      have sa := same_upd (o := .lst (pickV (sliceRange 0 x1.length 2) x1)) hra
      refine ⟨_, rfl, p2, x2, rfl, SqL.of (sa _ _ (s15 _ _ l5)), fun rb hrb => ?_⟩
      have sb := same_upd (o := .lst (pickV (sliceRange 0 x2.length 2) x2)) hrb
      have k1 : KAll H5 (nmV.map fun x => ga K x) (pickV (sliceRange 0 x1.length 2) x1) := by
        have k := h45.pick (sliceRange 0 x1.length 2)
        rw [len1] at k ⊢
        exact k
      have k2 : KAll H5 (nmO.map fun q => ga K q.1) (pickV (sliceRange 0 x2.length 2) x2) := by
        have k := h5.pick (sliceRange 0 x2.length 2)
        rw [len2] at k ⊢
        exact k
      have nk1 : (pickV (sliceRange 0 x1.length 2) x1).length = 15 := k1.len
      have nk2 : (pickV (sliceRange 0 x2.length 2) x2).length = 6 := k2.len
      refine ⟨ra, rb, _, _, rfl, rfl, sb _ _ upd_same, upd_same, by rw [nk1, nk2]; decide, fun rc hrc => ?_⟩
      have sc := same_upd (o := .lst (pickV (sliceRange 0 x1.length 2) x1 ++ pickV (sliceRange 0 x2.length 2) x2)) hrc
      intro u H16 s16 hu
      refine ⟨(by show 1 ≤ sizeLine; decide), fun rd hrd => ?_⟩
      have sd := same_upd (o := .lst [u]) hrd
      refine ⟨rc, rd, _, _, rfl, rfl, sd _ _ (s16 _ _ upd_same), upd_same, by rw [List.length_append, nk1, nk2]; show 15 + 6 + 1 ≤ sizeLine; decide, fun so hso => ?_⟩
      have s17 := s15.trans (sa.trans (sb.trans (sc.trans (s16.trans (sd.trans (same_upd (o := .lst (pickV (sliceRange 0 x1.length 2) x1 ++ pickV (sliceRange 0 x2.length 2) x2 ++ [u])) hso))))))
      have lL : upd (upd H16 rd (.lst [u])) so (.lst (pickV (sliceRange 0 x1.length 2) x1 ++ pickV (sliceRange 0 x2.length 2) x2 ++ [u])) so = some (.lst (pickV (sliceRange 0 x1.length 2) x1 ++ pickV (sliceRange 0 x2.length 2) x2 ++ [u])) := upd_same
      have kall : KAll (upd (upd H16 rd (.lst [u])) so (.lst (pickV (sliceRange 0 x1.length 2) x1 ++ pickV (sliceRange 0 x2.length 2) x2 ++ [u]))) (nmA.map fun x => ga K x) (pickV (sliceRange 0 x1.length 2) x1 ++ pickV (sliceRange 0 x2.length 2) x2 ++ [u]) :=
        ((k1.up s17).app (k2.up s17)).app (cs := (nmV.map fun x => ga K x) ++ nmO.map fun q => ga K q.1) (ds := [ga K "Nothing"]) ⟨u, [], rfl, hu.k.up (sd.trans (same_upd hso)), rfl⟩
      generalize upd (upd H16 rd (.lst [u])) so (.lst (pickV (sliceRange 0 x1.length 2) x1 ++ pickV (sliceRange 0 x2.length 2) x2 ++ [u])) = H17 at s17 lL kall
      generalize pickV (sliceRange 0 x1.length 2) x1 ++ pickV (sliceRange 0 x2.length 2) x2 ++ [u] = L at lL kall
      have lenL : L.length = 22 := kall.len
      clear k1 k2 nk1 nk2 sa sb sc sd s16 hu hso hrd hrc hrb hra
      -- the third test
      refine ⟨_, rfl, so, rfl, ⟨_, SqL.of lL⟩, fun F1 hF1 => ?_⟩
      refine lc_lists (xs := L) zsA (by rw [lenL]; rfl) (by omega) (SqL.of lL) hF1 (fun j x z H18 Q18 hx hz s18 q18 => ?_) fun H18 ps s18 l18 np hps => ?_
      · obtain ⟨c, hc, hk⟩ := (kall.up s18).get hx
        rw [List.getElem?_map] at hc
        rw [zsA_nm, List.getElem?_map] at hz
        cases e : nmA[j]? with
        | none =>
          rw [e] at hc
          cases hc
        | some y =>
          rw [e] at hc hz
          cases hc
          cases hz
          exact ⟨x, rfl, x, ga K y, _, rfl, hk, hkit y (List.mem_of_getElem? e), fun p H' s n l => q18 p H' s n l⟩
      refine ⟨22, rfl, by decide, by decide, fun E2 hE2 => ?_⟩
      refine lr_lists zsA rfl (by decide) hE2 (fun j z H19 Q19 hz s19 q19 => ?_) fun H19 qs s19 l19 nq hqs => ?_
      · refine ⟨22, rfl, by decide, by decide, fun E3 hE3 => ?_⟩
        have ez := zsA_at hz
        refine lr_flat z (by rw [ez]; rfl) (by decide) hE3 (fun k y H20 Q20 hy s20 q20 => ?_) fun H20 s20 l20 => q19 E3 H20 s20 hE3 l20
        rw [ez] at hy
        have hk : k < 22 := by
          have := (List.getElem?_eq_some_iff.mp hy).1
          simpa using this
        rw [List.getElem?_map] at hy
        rw [List.getElem?_range hk] at hy
        cases hy
        refine ⟨_, rfl, _, rfl, rfl, ?_⟩
        have e1 : decide (V.int (0 + (k : Int)) = V.int (0 + (j : Int))) = decide (k = j) := by
          rw [dec_int, Bool.eq_iff_iff, beq_iff_eq, decide_eq_true_eq]
          omega
        rw [e1]
        exact q20 H20 (Same.refl H20)
      have fl : ∀ z ∈ zsA, ∀ v ∈ z, okV v = true := by decide +kernel
      have fl2 : ∀ z ∈ zsA, ∀ v ∈ z, flatV v = true := fun z hz v hv => okV_flat (fl z hz v hv)
      have s20 := s18.trans s19
      refine ne_same (d := .list (zsA.map fun z => .list (z.map toD))) (.lst (SqL.of (s19 _ _ l18)) (dps_nest np (fun j z hz => let ⟨p, e1, e2⟩ := hps j z hz; ⟨p, e1, s19 _ _ e2⟩) fl2)) (.lst (SqL.of l19) (dps_nest nq hqs fl2)) (shaped_nest fl) ⟨_, rfl, ?_⟩
      refine iteF ?_
      -- the fourth test
      have kall2 := kall.up s20
      refine ⟨_, rfl, so, rfl, ⟨_, SqL.of (s20 _ _ lL)⟩, fun F2 hF2 => ?_⟩
      refine lc_flat (xs := L) (List.replicate 22 (.bl true)) (by rw [lenL]; rfl) (by omega) (SqL.of (s20 _ _ lL)) hF2 (fun j x y H21 Q21 hx hy s21 q21 => ?_) fun H21 s21 l21 => ?_
      · obtain ⟨c, hc, hk⟩ := (kall2.up s21).get hx
        rw [List.getElem?_map] at hc
        rw [List.getElem?_replicate] at hy
        cases e : nmA[j]? with
        | none =>
          rw [e] at hc
          cases hc
        | some u =>
          rw [e] at hc
          cases hc
          have hm := List.mem_of_getElem? e
          split at hy
          · cases hy
            exact ⟨x, rfl, x, _, ga K u, _, true, rfl, hk, (hkit u hm).is_, fun _ r => r, hHE u hm, true, rfl, x, rfl, x, _, ga K u, _, true, rfl, hk, (hkit u hm).is_, fun _ r => r, hVE u hm, q21 H21 (Same.refl H21)⟩
          · cases hy
      refine ⟨(by show 1 ≤ sizeLine; decide), fun q hq => ⟨q, 22, _, rfl, rfl, upd_same, by decide, by decide, (by show 1 * 22 ≤ sizeLine; decide), fun r hr => ?_⟩⟩
      have s22 := s21.trans ((same_upd (o := .lst [V.bl true]) hq).trans (same_upd (o := .lst (List.replicate (22 : Int).toNat [V.bl true]).flatten) hr))
      have l22 := same_upd (o := .lst (List.replicate (22 : Int).toNat [V.bl true]).flatten) hr _ _ (same_upd (o := .lst [V.bl true]) hq _ _ l21)
      have rt : ∀ u ∈ List.replicate 22 (V.bl true), okV u = true := by decide +kernel
      refine ne_same (d := .list ((List.replicate 22 (V.bl true)).map toD)) (dp_lst (SqL.of l22) fun u hu => okV_flat (rt u hu)) (dp_lst (SqL.of upd_same) fun u hu => okV_flat (rt u hu)) (shaped_flat rt).1 ⟨_, rfl, ?_⟩
      refine iteF ?_
      refine ⟨s1.trans (s3.trans (s4.trans (s5.trans (s17.trans (s20.trans s22))))), _, _, _, _, _, _, _, _, _, _, rfl⟩
    · rintro σ H1 ⟨s1, _⟩
      exact hQ H1
end
end K1
namespace K1
open PySem PySem.Spec PyProof.Rows L2 He Fh
/-! ### the head -/
def clsBody (s : Stmt) : List Stmt := match s with
  | .ClassDef _ _ _ b _ _ _ _ _ _ _ => b
  | _ => []
def mth (i j : Nat) : Stmt := (clsBody (top i)).getD j (.Pass ⟨0, 0, 0, 0⟩)
def dfD (x : Str) (st : Stmt) : He.DefD := ⟨(x, none), x, x, defArgs st, defBody st, defScope st, [], []⟩
def dfI (x qual : Str) (st : Stmt) : He.DefD := ⟨(x, some "__init__"), "__init__", qual, defArgs st, defBody st, defScope st, [], []⟩
def fn : List He.DefD := [dfD "_law_tape" sTape, dfD "_law_pick" sPick, dfD "_law_one_of" sOne, dfD "_law_any" sAny, dfD "_law_of_values" sVals, dfD "_law_of_others" sOths, dfD "_law_kinds" sKinds, dfD "law" sLaw,
  dfI "BadKinds" "BadKinds.__init__" (mth 2 0),
  dfI "BadHandles" "BadHandles.__init__" (mth 3 0),
  dfI "BadRules" "BadRules.__init__" (mth 4 0),
  dfI "BadStart" "BadStart.__init__" (mth 7 0),
  dfI "BadCount" "BadCount.__init__" (mth 8 0),
  dfI "NoRule" "NoRule.__init__" (mth 9 0),
  dfI "NoKind" "NoKind.__init__" (mth 10 0),
  dfI "BadPrices" "BadPrices.__init__" (mth 12 0),
  dfI "BadUntold" "BadUntold.__init__" (mth 14 0),
  dfI "BadWeights" "BadWeights.__init__" (mth 15 0),
  dfI "BadLetters" "BadLetters.__init__" (mth 16 0),
  dfI "BadTimes" "BadTimes.__init__" (mth 17 0),
  dfI "BadName" "BadName.__init__" (mth 18 0),
  dfI "NoThing" "NoThing.__init__" (mth 19 0),
  dfI "NoHolder" "NoHolder.__init__" (mth 20 0),
  dfI "BadRule" "BadRule.__init__" (mth 5 0),
  dfI "NotDone" "NotDone.__init__" (mth 11 0),
  dfI "BadLine" "BadLine.__init__" (mth 23 0),
  dfI "NamedTwice" "NamedTwice.__init__" (mth 6 0),
  dfI "NoEnd" "NoEnd.__init__" (mth 13 0),
  dfI "NotHeld" "NotHeld.__init__" (mth 21 0),
  dfI "Nothing" "Nothing.__init__" (mth 22 0)]
def fa : List He.Fa := [.glo "_law_tape", .glo "_law_pick", .glo "_law_one_of", .glo "_law_any", .glo "_law_of_values", .glo "_law_of_others", .glo "_law_kinds", .glo "law",
  .glo "BadKinds", .glo "BadHandles", .glo "BadRules", .glo "BadStart", .glo "BadCount", .glo "NoRule", .glo "NoKind", .glo "BadPrices", .glo "BadUntold", .glo "BadWeights", .glo "BadLetters", .glo "BadTimes", .glo "BadName", .glo "NoThing", .glo "NoHolder", .glo "BadRule", .glo "NotDone", .glo "BadLine", .glo "NamedTwice", .glo "NoEnd", .glo "NotHeld", .glo "Nothing", .glo "HandleError",
  .free "int", .free "range", .free "len", .free "max", .free "min", .free "repr", .free "isinstance", .free "ValueError",
  .noat "BadKinds" "value", .noat "BadHandles" "value", .noat "BadRules" "value", .noat "BadStart" "value", .noat "BadCount" "value", .noat "NoRule" "value", .noat "NoKind" "value", .noat "BadPrices" "value", .noat "BadUntold" "value", .noat "BadWeights" "value", .noat "BadLetters" "value", .noat "BadTimes" "value", .noat "BadName" "value", .noat "NoThing" "value", .noat "NoHolder" "value", .noat "BadRule" "number", .noat "NotDone" "number", .noat "BadLine" "line", .noat "NamedTwice" "name", .noat "NoEnd" "name", .noat "NotHeld" "name"]
def ex (K : PySem.W.Frag) : Bool := nmA.all fun y => exB K (ga K y) && (decide (PySem.W.kitOne K (.ref (ga K y)) (.ref (ga K "HandleError")) = some true) && (decide (PySem.W.kitOne K (.ref (ga K y)) (.type "ValueError") = some true) &&
  nmA.all fun x => decide (PySem.W.kitOne K (.ref (ga K y)) (.ref (ga K x)) = some (decide (x = y)))))
abbrev R : PySem.W.OpenRow := PySem.W.OpenLaw.row PySem.Challenge.rw_farhandles_k01_errors_made
abbrev hk : PySem.W.Hook := hookE 5 fa fn ex
def ob (s : PySem.W.SharedT) : AlE := obsE 5 fa fn ex (HandSHeadRun.getT s)
theorem ob_eq (s : PySem.W.SharedT) : ob s = hk.obs s.abs := obsE_eq (HandSHeadRun.getT_eq s)
abbrev loose : List Str := ["HandleError", "BadKinds", "BadHandles", "BadRules", "BadRule", "NamedTwice", "BadStart", "BadCount", "NoRule", "NoKind", "NotDone", "BadPrices", "NoEnd", "BadUntold", "BadWeights", "BadLetters", "BadTimes", "BadName", "NoThing", "NoHolder", "NotHeld", "Nothing", "BadLine", "_law_tape", "_law_pick", "_law_one_of", "_law_any", "_law_of_values", "_law_of_others", "_law_kinds"]
theorem run (w : World) : HandSHeadRun.RunEq R (PySem.W.view R.prog [32]) hk ob 9000 loose w := by
  intro os
  kernel_rfl
end K1
namespace K1
open PySem PySem.Spec PyProof.Rows L2 He Fh
section
variable {P : Program} {w : World} {K : PySem.W.Frag} {mg : Str → Option Value} {h base : Heap}
theorem ex_at (c : ex K = true) {y : Str} (hy : y ∈ nmA) : exB K (ga K y) = true ∧ PySem.W.kitOne K (.ref (ga K y)) (.ref (ga K "HandleError")) = some true ∧ PySem.W.kitOne K (.ref (ga K y)) (.type "ValueError") = some true ∧ ∀ x ∈ nmA, PySem.W.kitOne K (.ref (ga K y)) (.ref (ga K x)) = some (decide (x = y)) := by
  have h := List.all_eq_true.mp c y hy
  obtain ⟨h1, h⟩ := ba h
  obtain ⟨h2, h⟩ := ba h
  obtain ⟨h3, h⟩ := ba h
  exact ⟨h1, of_decide_eq_true h2, of_decide_eq_true h3, fun x hx => of_decide_eq_true (List.all_eq_true.mp h x hx)⟩
theorem cl_BadKinds (X : K.In h) (G : h.Ns mainGlobals mg) (c : SaysE fa fn ex K) : Cl P w K mg base "BadKinds" "value" := by
  obtain ⟨fd, F⟩ := c.1.def_ 8 (d := dfI "BadKinds" "BadKinds.__init__" (mth 2 0)) rfl
  have F1 : FunD K "__init__" "BadKinds.__init__" (defArgs (mth 2 0)) (defBody (mth 2 0)) (defScope (mth 2 0)) [] [] (ma K (ga K "BadKinds") "__init__") fd := F
  exact cl_mk F1 ⟨rfl, rfl, rfl, by decide +kernel, rfl, by decide +kernel, by decide +kernel⟩ rfl (by decide +kernel) (by decide +kernel) (ex_at c.2 (y := "BadKinds") (by decide +kernel)).1 (c.1.fact 39 (f := .noat "BadKinds" "value") rfl) (He.glo_ok X G (c.1.fact 8 (f := .glo "BadKinds") rfl)) (fun _ _ _ _ _ _ _ _ => rfl) (fun _ _ _ _ _ _ _ _ => rfl)
theorem cl_BadHandles (X : K.In h) (G : h.Ns mainGlobals mg) (c : SaysE fa fn ex K) : Cl P w K mg base "BadHandles" "value" := by
  obtain ⟨fd, F⟩ := c.1.def_ 9 (d := dfI "BadHandles" "BadHandles.__init__" (mth 3 0)) rfl
  have F1 : FunD K "__init__" "BadHandles.__init__" (defArgs (mth 3 0)) (defBody (mth 3 0)) (defScope (mth 3 0)) [] [] (ma K (ga K "BadHandles") "__init__") fd := F
  exact cl_mk F1 ⟨rfl, rfl, rfl, by decide +kernel, rfl, by decide +kernel, by decide +kernel⟩ rfl (by decide +kernel) (by decide +kernel) (ex_at c.2 (y := "BadHandles") (by decide +kernel)).1 (c.1.fact 40 (f := .noat "BadHandles" "value") rfl) (He.glo_ok X G (c.1.fact 9 (f := .glo "BadHandles") rfl)) (fun _ _ _ _ _ _ _ _ => rfl) (fun _ _ _ _ _ _ _ _ => rfl)
theorem cl_BadRules (X : K.In h) (G : h.Ns mainGlobals mg) (c : SaysE fa fn ex K) : Cl P w K mg base "BadRules" "value" := by
  obtain ⟨fd, F⟩ := c.1.def_ 10 (d := dfI "BadRules" "BadRules.__init__" (mth 4 0)) rfl
  have F1 : FunD K "__init__" "BadRules.__init__" (defArgs (mth 4 0)) (defBody (mth 4 0)) (defScope (mth 4 0)) [] [] (ma K (ga K "BadRules") "__init__") fd := F
  exact cl_mk F1 ⟨rfl, rfl, rfl, by decide +kernel, rfl, by decide +kernel, by decide +kernel⟩ rfl (by decide +kernel) (by decide +kernel) (ex_at c.2 (y := "BadRules") (by decide +kernel)).1 (c.1.fact 41 (f := .noat "BadRules" "value") rfl) (He.glo_ok X G (c.1.fact 10 (f := .glo "BadRules") rfl)) (fun _ _ _ _ _ _ _ _ => rfl) (fun _ _ _ _ _ _ _ _ => rfl)
theorem cl_BadStart (X : K.In h) (G : h.Ns mainGlobals mg) (c : SaysE fa fn ex K) : Cl P w K mg base "BadStart" "value" := by
  obtain ⟨fd, F⟩ := c.1.def_ 11 (d := dfI "BadStart" "BadStart.__init__" (mth 7 0)) rfl
  have F1 : FunD K "__init__" "BadStart.__init__" (defArgs (mth 7 0)) (defBody (mth 7 0)) (defScope (mth 7 0)) [] [] (ma K (ga K "BadStart") "__init__") fd := F
  exact cl_mk F1 ⟨rfl, rfl, rfl, by decide +kernel, rfl, by decide +kernel, by decide +kernel⟩ rfl (by decide +kernel) (by decide +kernel) (ex_at c.2 (y := "BadStart") (by decide +kernel)).1 (c.1.fact 42 (f := .noat "BadStart" "value") rfl) (He.glo_ok X G (c.1.fact 11 (f := .glo "BadStart") rfl)) (fun _ _ _ _ _ _ _ _ => rfl) (fun _ _ _ _ _ _ _ _ => rfl)
theorem cl_BadCount (X : K.In h) (G : h.Ns mainGlobals mg) (c : SaysE fa fn ex K) : Cl P w K mg base "BadCount" "value" := by
  obtain ⟨fd, F⟩ := c.1.def_ 12 (d := dfI "BadCount" "BadCount.__init__" (mth 8 0)) rfl
  have F1 : FunD K "__init__" "BadCount.__init__" (defArgs (mth 8 0)) (defBody (mth 8 0)) (defScope (mth 8 0)) [] [] (ma K (ga K "BadCount") "__init__") fd := F
  exact cl_mk F1 ⟨rfl, rfl, rfl, by decide +kernel, rfl, by decide +kernel, by decide +kernel⟩ rfl (by decide +kernel) (by decide +kernel) (ex_at c.2 (y := "BadCount") (by decide +kernel)).1 (c.1.fact 43 (f := .noat "BadCount" "value") rfl) (He.glo_ok X G (c.1.fact 12 (f := .glo "BadCount") rfl)) (fun _ _ _ _ _ _ _ _ => rfl) (fun _ _ _ _ _ _ _ _ => rfl)
theorem cl_NoRule (X : K.In h) (G : h.Ns mainGlobals mg) (c : SaysE fa fn ex K) : Cl P w K mg base "NoRule" "value" := by
  obtain ⟨fd, F⟩ := c.1.def_ 13 (d := dfI "NoRule" "NoRule.__init__" (mth 9 0)) rfl
  have F1 : FunD K "__init__" "NoRule.__init__" (defArgs (mth 9 0)) (defBody (mth 9 0)) (defScope (mth 9 0)) [] [] (ma K (ga K "NoRule") "__init__") fd := F
  exact cl_mk F1 ⟨rfl, rfl, rfl, by decide +kernel, rfl, by decide +kernel, by decide +kernel⟩ rfl (by decide +kernel) (by decide +kernel) (ex_at c.2 (y := "NoRule") (by decide +kernel)).1 (c.1.fact 44 (f := .noat "NoRule" "value") rfl) (He.glo_ok X G (c.1.fact 13 (f := .glo "NoRule") rfl)) (fun _ _ _ _ _ _ _ _ => rfl) (fun _ _ _ _ _ _ _ _ => rfl)
theorem cl_NoKind (X : K.In h) (G : h.Ns mainGlobals mg) (c : SaysE fa fn ex K) : Cl P w K mg base "NoKind" "value" := by
  obtain ⟨fd, F⟩ := c.1.def_ 14 (d := dfI "NoKind" "NoKind.__init__" (mth 10 0)) rfl
  have F1 : FunD K "__init__" "NoKind.__init__" (defArgs (mth 10 0)) (defBody (mth 10 0)) (defScope (mth 10 0)) [] [] (ma K (ga K "NoKind") "__init__") fd := F
  exact cl_mk F1 ⟨rfl, rfl, rfl, by decide +kernel, rfl, by decide +kernel, by decide +kernel⟩ rfl (by decide +kernel) (by decide +kernel) (ex_at c.2 (y := "NoKind") (by decide +kernel)).1 (c.1.fact 45 (f := .noat "NoKind" "value") rfl) (He.glo_ok X G (c.1.fact 14 (f := .glo "NoKind") rfl)) (fun _ _ _ _ _ _ _ _ => rfl) (fun _ _ _ _ _ _ _ _ => rfl)
theorem cl_BadPrices (X : K.In h) (G : h.Ns mainGlobals mg) (c : SaysE fa fn ex K) : Cl P w K mg base "BadPrices" "value" := by
  obtain ⟨fd, F⟩ := c.1.def_ 15 (d := dfI "BadPrices" "BadPrices.__init__" (mth 12 0)) rfl
  have F1 : FunD K "__init__" "BadPrices.__init__" (defArgs (mth 12 0)) (defBody (mth 12 0)) (defScope (mth 12 0)) [] [] (ma K (ga K "BadPrices") "__init__") fd := F
  exact cl_mk F1 ⟨rfl, rfl, rfl, by decide +kernel, rfl, by decide +kernel, by decide +kernel⟩ rfl (by decide +kernel) (by decide +kernel) (ex_at c.2 (y := "BadPrices") (by decide +kernel)).1 (c.1.fact 46 (f := .noat "BadPrices" "value") rfl) (He.glo_ok X G (c.1.fact 15 (f := .glo "BadPrices") rfl)) (fun _ _ _ _ _ _ _ _ => rfl) (fun _ _ _ _ _ _ _ _ => rfl)
theorem cl_BadUntold (X : K.In h) (G : h.Ns mainGlobals mg) (c : SaysE fa fn ex K) : Cl P w K mg base "BadUntold" "value" := by
  obtain ⟨fd, F⟩ := c.1.def_ 16 (d := dfI "BadUntold" "BadUntold.__init__" (mth 14 0)) rfl
  have F1 : FunD K "__init__" "BadUntold.__init__" (defArgs (mth 14 0)) (defBody (mth 14 0)) (defScope (mth 14 0)) [] [] (ma K (ga K "BadUntold") "__init__") fd := F
  exact cl_mk F1 ⟨rfl, rfl, rfl, by decide +kernel, rfl, by decide +kernel, by decide +kernel⟩ rfl (by decide +kernel) (by decide +kernel) (ex_at c.2 (y := "BadUntold") (by decide +kernel)).1 (c.1.fact 47 (f := .noat "BadUntold" "value") rfl) (He.glo_ok X G (c.1.fact 16 (f := .glo "BadUntold") rfl)) (fun _ _ _ _ _ _ _ _ => rfl) (fun _ _ _ _ _ _ _ _ => rfl)
theorem cl_BadWeights (X : K.In h) (G : h.Ns mainGlobals mg) (c : SaysE fa fn ex K) : Cl P w K mg base "BadWeights" "value" := by
  obtain ⟨fd, F⟩ := c.1.def_ 17 (d := dfI "BadWeights" "BadWeights.__init__" (mth 15 0)) rfl
  have F1 : FunD K "__init__" "BadWeights.__init__" (defArgs (mth 15 0)) (defBody (mth 15 0)) (defScope (mth 15 0)) [] [] (ma K (ga K "BadWeights") "__init__") fd := F
  exact cl_mk F1 ⟨rfl, rfl, rfl, by decide +kernel, rfl, by decide +kernel, by decide +kernel⟩ rfl (by decide +kernel) (by decide +kernel) (ex_at c.2 (y := "BadWeights") (by decide +kernel)).1 (c.1.fact 48 (f := .noat "BadWeights" "value") rfl) (He.glo_ok X G (c.1.fact 17 (f := .glo "BadWeights") rfl)) (fun _ _ _ _ _ _ _ _ => rfl) (fun _ _ _ _ _ _ _ _ => rfl)
theorem cl_BadLetters (X : K.In h) (G : h.Ns mainGlobals mg) (c : SaysE fa fn ex K) : Cl P w K mg base "BadLetters" "value" := by
  obtain ⟨fd, F⟩ := c.1.def_ 18 (d := dfI "BadLetters" "BadLetters.__init__" (mth 16 0)) rfl
  have F1 : FunD K "__init__" "BadLetters.__init__" (defArgs (mth 16 0)) (defBody (mth 16 0)) (defScope (mth 16 0)) [] [] (ma K (ga K "BadLetters") "__init__") fd := F
  exact cl_mk F1 ⟨rfl, rfl, rfl, by decide +kernel, rfl, by decide +kernel, by decide +kernel⟩ rfl (by decide +kernel) (by decide +kernel) (ex_at c.2 (y := "BadLetters") (by decide +kernel)).1 (c.1.fact 49 (f := .noat "BadLetters" "value") rfl) (He.glo_ok X G (c.1.fact 18 (f := .glo "BadLetters") rfl)) (fun _ _ _ _ _ _ _ _ => rfl) (fun _ _ _ _ _ _ _ _ => rfl)
theorem cl_BadTimes (X : K.In h) (G : h.Ns mainGlobals mg) (c : SaysE fa fn ex K) : Cl P w K mg base "BadTimes" "value" := by
  obtain ⟨fd, F⟩ := c.1.def_ 19 (d := dfI "BadTimes" "BadTimes.__init__" (mth 17 0)) rfl
  have F1 : FunD K "__init__" "BadTimes.__init__" (defArgs (mth 17 0)) (defBody (mth 17 0)) (defScope (mth 17 0)) [] [] (ma K (ga K "BadTimes") "__init__") fd := F
  exact cl_mk F1 ⟨rfl, rfl, rfl, by decide +kernel, rfl, by decide +kernel, by decide +kernel⟩ rfl (by decide +kernel) (by decide +kernel) (ex_at c.2 (y := "BadTimes") (by decide +kernel)).1 (c.1.fact 50 (f := .noat "BadTimes" "value") rfl) (He.glo_ok X G (c.1.fact 19 (f := .glo "BadTimes") rfl)) (fun _ _ _ _ _ _ _ _ => rfl) (fun _ _ _ _ _ _ _ _ => rfl)
theorem cl_BadName (X : K.In h) (G : h.Ns mainGlobals mg) (c : SaysE fa fn ex K) : Cl P w K mg base "BadName" "value" := by
  obtain ⟨fd, F⟩ := c.1.def_ 20 (d := dfI "BadName" "BadName.__init__" (mth 18 0)) rfl
  have F1 : FunD K "__init__" "BadName.__init__" (defArgs (mth 18 0)) (defBody (mth 18 0)) (defScope (mth 18 0)) [] [] (ma K (ga K "BadName") "__init__") fd := F
  exact cl_mk F1 ⟨rfl, rfl, rfl, by decide +kernel, rfl, by decide +kernel, by decide +kernel⟩ rfl (by decide +kernel) (by decide +kernel) (ex_at c.2 (y := "BadName") (by decide +kernel)).1 (c.1.fact 51 (f := .noat "BadName" "value") rfl) (He.glo_ok X G (c.1.fact 20 (f := .glo "BadName") rfl)) (fun _ _ _ _ _ _ _ _ => rfl) (fun _ _ _ _ _ _ _ _ => rfl)
theorem cl_NoThing (X : K.In h) (G : h.Ns mainGlobals mg) (c : SaysE fa fn ex K) : Cl P w K mg base "NoThing" "value" := by
  obtain ⟨fd, F⟩ := c.1.def_ 21 (d := dfI "NoThing" "NoThing.__init__" (mth 19 0)) rfl
  have F1 : FunD K "__init__" "NoThing.__init__" (defArgs (mth 19 0)) (defBody (mth 19 0)) (defScope (mth 19 0)) [] [] (ma K (ga K "NoThing") "__init__") fd := F
  exact cl_mk F1 ⟨rfl, rfl, rfl, by decide +kernel, rfl, by decide +kernel, by decide +kernel⟩ rfl (by decide +kernel) (by decide +kernel) (ex_at c.2 (y := "NoThing") (by decide +kernel)).1 (c.1.fact 52 (f := .noat "NoThing" "value") rfl) (He.glo_ok X G (c.1.fact 21 (f := .glo "NoThing") rfl)) (fun _ _ _ _ _ _ _ _ => rfl) (fun _ _ _ _ _ _ _ _ => rfl)
theorem cl_NoHolder (X : K.In h) (G : h.Ns mainGlobals mg) (c : SaysE fa fn ex K) : Cl P w K mg base "NoHolder" "value" := by
  obtain ⟨fd, F⟩ := c.1.def_ 22 (d := dfI "NoHolder" "NoHolder.__init__" (mth 20 0)) rfl
  have F1 : FunD K "__init__" "NoHolder.__init__" (defArgs (mth 20 0)) (defBody (mth 20 0)) (defScope (mth 20 0)) [] [] (ma K (ga K "NoHolder") "__init__") fd := F
  exact cl_mk F1 ⟨rfl, rfl, rfl, by decide +kernel, rfl, by decide +kernel, by decide +kernel⟩ rfl (by decide +kernel) (by decide +kernel) (ex_at c.2 (y := "NoHolder") (by decide +kernel)).1 (c.1.fact 53 (f := .noat "NoHolder" "value") rfl) (He.glo_ok X G (c.1.fact 22 (f := .glo "NoHolder") rfl)) (fun _ _ _ _ _ _ _ _ => rfl) (fun _ _ _ _ _ _ _ _ => rfl)
theorem cl_BadRule (X : K.In h) (G : h.Ns mainGlobals mg) (c : SaysE fa fn ex K) : Cl P w K mg base "BadRule" "number" := by
  obtain ⟨fd, F⟩ := c.1.def_ 23 (d := dfI "BadRule" "BadRule.__init__" (mth 5 0)) rfl
  have F1 : FunD K "__init__" "BadRule.__init__" (defArgs (mth 5 0)) (defBody (mth 5 0)) (defScope (mth 5 0)) [] [] (ma K (ga K "BadRule") "__init__") fd := F
  exact cl_mk F1 ⟨rfl, rfl, rfl, by decide +kernel, rfl, by decide +kernel, by decide +kernel⟩ rfl (by decide +kernel) (by decide +kernel) (ex_at c.2 (y := "BadRule") (by decide +kernel)).1 (c.1.fact 54 (f := .noat "BadRule" "number") rfl) (He.glo_ok X G (c.1.fact 23 (f := .glo "BadRule") rfl)) (fun _ _ _ _ _ _ _ _ => rfl) (fun _ _ _ _ _ _ _ _ => rfl)
theorem cl_NotDone (X : K.In h) (G : h.Ns mainGlobals mg) (c : SaysE fa fn ex K) : Cl P w K mg base "NotDone" "number" := by
  obtain ⟨fd, F⟩ := c.1.def_ 24 (d := dfI "NotDone" "NotDone.__init__" (mth 11 0)) rfl
  have F1 : FunD K "__init__" "NotDone.__init__" (defArgs (mth 11 0)) (defBody (mth 11 0)) (defScope (mth 11 0)) [] [] (ma K (ga K "NotDone") "__init__") fd := F
  exact cl_mk F1 ⟨rfl, rfl, rfl, by decide +kernel, rfl, by decide +kernel, by decide +kernel⟩ rfl (by decide +kernel) (by decide +kernel) (ex_at c.2 (y := "NotDone") (by decide +kernel)).1 (c.1.fact 55 (f := .noat "NotDone" "number") rfl) (He.glo_ok X G (c.1.fact 24 (f := .glo "NotDone") rfl)) (fun _ _ _ _ _ _ _ _ => rfl) (fun _ _ _ _ _ _ _ _ => rfl)
theorem cl_BadLine (X : K.In h) (G : h.Ns mainGlobals mg) (c : SaysE fa fn ex K) : Cl P w K mg base "BadLine" "line" := by
  obtain ⟨fd, F⟩ := c.1.def_ 25 (d := dfI "BadLine" "BadLine.__init__" (mth 23 0)) rfl
  have F1 : FunD K "__init__" "BadLine.__init__" (defArgs (mth 23 0)) (defBody (mth 23 0)) (defScope (mth 23 0)) [] [] (ma K (ga K "BadLine") "__init__") fd := F
  exact cl_mk F1 ⟨rfl, rfl, rfl, by decide +kernel, rfl, by decide +kernel, by decide +kernel⟩ rfl (by decide +kernel) (by decide +kernel) (ex_at c.2 (y := "BadLine") (by decide +kernel)).1 (c.1.fact 56 (f := .noat "BadLine" "line") rfl) (He.glo_ok X G (c.1.fact 25 (f := .glo "BadLine") rfl)) (fun _ _ _ _ _ _ _ _ => rfl) (fun _ _ _ _ _ _ _ _ => rfl)
theorem cl_NamedTwice (X : K.In h) (G : h.Ns mainGlobals mg) (c : SaysE fa fn ex K) : Cl P w K mg base "NamedTwice" "name" := by
  obtain ⟨fd, F⟩ := c.1.def_ 26 (d := dfI "NamedTwice" "NamedTwice.__init__" (mth 6 0)) rfl
  have F1 : FunD K "__init__" "NamedTwice.__init__" (defArgs (mth 6 0)) (defBody (mth 6 0)) (defScope (mth 6 0)) [] [] (ma K (ga K "NamedTwice") "__init__") fd := F
  exact cl_mk F1 ⟨rfl, rfl, rfl, by decide +kernel, rfl, by decide +kernel, by decide +kernel⟩ rfl (by decide +kernel) (by decide +kernel) (ex_at c.2 (y := "NamedTwice") (by decide +kernel)).1 (c.1.fact 57 (f := .noat "NamedTwice" "name") rfl) (He.glo_ok X G (c.1.fact 26 (f := .glo "NamedTwice") rfl)) (fun _ _ _ _ _ _ _ _ => rfl) (fun _ _ _ _ _ _ _ _ => rfl)
theorem cl_NoEnd (X : K.In h) (G : h.Ns mainGlobals mg) (c : SaysE fa fn ex K) : Cl P w K mg base "NoEnd" "name" := by
  obtain ⟨fd, F⟩ := c.1.def_ 27 (d := dfI "NoEnd" "NoEnd.__init__" (mth 13 0)) rfl
  have F1 : FunD K "__init__" "NoEnd.__init__" (defArgs (mth 13 0)) (defBody (mth 13 0)) (defScope (mth 13 0)) [] [] (ma K (ga K "NoEnd") "__init__") fd := F
  exact cl_mk F1 ⟨rfl, rfl, rfl, by decide +kernel, rfl, by decide +kernel, by decide +kernel⟩ rfl (by decide +kernel) (by decide +kernel) (ex_at c.2 (y := "NoEnd") (by decide +kernel)).1 (c.1.fact 58 (f := .noat "NoEnd" "name") rfl) (He.glo_ok X G (c.1.fact 27 (f := .glo "NoEnd") rfl)) (fun _ _ _ _ _ _ _ _ => rfl) (fun _ _ _ _ _ _ _ _ => rfl)
theorem cl_NotHeld (X : K.In h) (G : h.Ns mainGlobals mg) (c : SaysE fa fn ex K) : Cl P w K mg base "NotHeld" "name" := by
  obtain ⟨fd, F⟩ := c.1.def_ 28 (d := dfI "NotHeld" "NotHeld.__init__" (mth 21 0)) rfl
  have F1 : FunD K "__init__" "NotHeld.__init__" (defArgs (mth 21 0)) (defBody (mth 21 0)) (defScope (mth 21 0)) [] [] (ma K (ga K "NotHeld") "__init__") fd := F
  exact cl_mk F1 ⟨rfl, rfl, rfl, by decide +kernel, rfl, by decide +kernel, by decide +kernel⟩ rfl (by decide +kernel) (by decide +kernel) (ex_at c.2 (y := "NotHeld") (by decide +kernel)).1 (c.1.fact 59 (f := .noat "NotHeld" "name") rfl) (He.glo_ok X G (c.1.fact 28 (f := .glo "NotHeld") rfl)) (fun _ _ _ _ _ _ _ _ => rfl) (fun _ _ _ _ _ _ _ _ => rfl)
theorem cl_Nothing (X : K.In h) (G : h.Ns mainGlobals mg) (c : SaysE fa fn ex K) : Cl0 P w K mg base "Nothing" := by
  obtain ⟨fd, F⟩ := c.1.def_ 29 (d := dfI "Nothing" "Nothing.__init__" (mth 22 0)) rfl
  have F1 : FunD K "__init__" "Nothing.__init__" (defArgs (mth 22 0)) (defBody (mth 22 0)) (defScope (mth 22 0)) [] [] (ma K (ga K "Nothing") "__init__") fd := F
  exact cl0_mk F1 ⟨rfl, rfl, rfl, by decide +kernel, rfl, by decide +kernel, by decide +kernel⟩ rfl (ex_at c.2 (y := "Nothing") (by decide +kernel)).1 (He.glo_ok X G (c.1.fact 29 (f := .glo "Nothing") rfl)) (fun _ _ _ _ _ _ _ => rfl)
theorem cls (X : K.In h) (G : h.Ns mainGlobals mg) (c : SaysE fa fn ex K) : Cls22 P w K mg base := by
  refine ⟨fun x hx => ?_, fun q hq => ?_, cl_Nothing X G c⟩
  · simp only [nmV, List.mem_cons, List.not_mem_nil, or_false] at hx
    rcases hx with rfl | rfl | rfl | rfl | rfl | rfl | rfl | rfl | rfl | rfl | rfl | rfl | rfl | rfl | rfl
    · exact cl_BadKinds X G c
    · exact cl_BadHandles X G c
    · exact cl_BadRules X G c
    · exact cl_BadStart X G c
    · exact cl_BadCount X G c
    · exact cl_NoRule X G c
    · exact cl_NoKind X G c
    · exact cl_BadPrices X G c
    · exact cl_BadUntold X G c
    · exact cl_BadWeights X G c
    · exact cl_BadLetters X G c
    · exact cl_BadTimes X G c
    · exact cl_BadName X G c
    · exact cl_NoThing X G c
    · exact cl_NoHolder X G c
  · simp only [nmO, List.mem_cons, List.not_mem_nil, or_false] at hq
    rcases hq with rfl | rfl | rfl | rfl | rfl | rfl
    · exact cl_BadRule X G c
    · exact cl_NotDone X G c
    · exact cl_BadLine X G c
    · exact cl_NamedTwice X G c
    · exact cl_NoEnd X G c
    · exact cl_NotHeld X G c
theorem facts (X : K.In h) (G : h.Ns mainGlobals mg) {f : Addr} (hfa : mg ("law" : Str) = some (.ref f)) (c : SaysE fa fn ex K) :
    ∃ fd : FuncData, (∀ (s : Shared) (u : Value), BindsTo s fd ⟨[u], []⟩ [("script", u)]) ∧ ∀ base : Heap, K.In base → base.Ns mainGlobals mg → FnG P w K mg base CX0 4 f fd ["script"] (spLaw K) := by
  obtain ⟨d0, F0⟩ := c.1.def_ 0 (d := dfD "_law_tape" sTape) rfl
  have m0 := He.glo_ok X G (c.1.fact 0 (f := .glo "_law_tape") rfl)
  have b0 : Binds K d0 ["script", "first"] [] := FunD.bindsN F0 fun _ _ _ _ _ _ us hl => match us, hl with | [_, _], _ => rfl
  obtain ⟨d1, F1⟩ := c.1.def_ 1 (d := dfD "_law_pick" sPick) rfl
  have m1 := He.glo_ok X G (c.1.fact 1 (f := .glo "_law_pick") rfl)
  have b1 : Binds K d1 ["tape", "many"] [] := FunD.bindsN F1 fun _ _ _ _ _ _ us hl => match us, hl with | [_, _], _ => rfl
  obtain ⟨d2, F2⟩ := c.1.def_ 2 (d := dfD "_law_one_of" sOne) rfl
  have m2 := He.glo_ok X G (c.1.fact 2 (f := .glo "_law_one_of") rfl)
  have b2 : Binds K d2 ["tape", "things"] [] := FunD.bindsN F2 fun _ _ _ _ _ _ us hl => match us, hl with | [_, _], _ => rfl
  obtain ⟨d3, F3⟩ := c.1.def_ 3 (d := dfD "_law_any" sAny) rfl
  have m3 := He.glo_ok X G (c.1.fact 3 (f := .glo "_law_any") rfl)
  have b3 : Binds K d3 ["tape"] [] := FunD.bindsN F3 fun _ _ _ _ _ _ us hl => match us, hl with | [_], _ => rfl
  obtain ⟨d4, F4⟩ := c.1.def_ 4 (d := dfD "_law_of_values" sVals) rfl
  have m4 := He.glo_ok X G (c.1.fact 4 (f := .glo "_law_of_values") rfl)
  have b4 : Binds K d4 ["thing"] [] := FunD.bindsN F4 fun _ _ _ _ _ _ us hl => match us, hl with | [_], _ => rfl
  obtain ⟨d5, F5⟩ := c.1.def_ 5 (d := dfD "_law_of_others" sOths) rfl
  have m5 := He.glo_ok X G (c.1.fact 5 (f := .glo "_law_of_others") rfl)
  have b5 : Binds K d5 ["thing"] [] := FunD.bindsN F5 fun _ _ _ _ _ _ us hl => match us, hl with | [_], _ => rfl
  obtain ⟨d6, F6⟩ := c.1.def_ 6 (d := dfD "_law_kinds" sKinds) rfl
  have m6 := He.glo_ok X G (c.1.fact 6 (f := .glo "_law_kinds") rfl)
  have b6 : Binds K d6 ["error"] [] := FunD.bindsN F6 fun _ _ _ _ _ _ us hl => match us, hl with | [_], _ => rfl
  obtain ⟨d7, F7⟩ := c.1.def_ 7 (d := dfD "law" sLaw) rfl
  have m7 := He.glo_ok X G (c.1.fact 7 (f := .glo "law") rfl)
  have g_int := He.free_ok X G (c.1.fact 31 (f := .free "int") rfl)
  have g_range := He.free_ok X G (c.1.fact 32 (f := .free "range") rfl)
  have g_len := He.free_ok X G (c.1.fact 33 (f := .free "len") rfl)
  have g_max := He.free_ok X G (c.1.fact 34 (f := .free "max") rfl)
  have g_min := He.free_ok X G (c.1.fact 35 (f := .free "min") rfl)
  have g_repr := He.free_ok X G (c.1.fact 36 (f := .free "repr") rfl)
  have g_isinstance := He.free_ok X G (c.1.fact 37 (f := .free "isinstance") rfl)
  have g_ValueError := He.free_ok X G (c.1.fact 38 (f := .free "ValueError") rfl)
  have e := hfa.symm.trans m7
  cases e
  have b7 := FunD.bindsA (ps := ["script"]) F7 fun _ _ _ _ _ _ us hl => match us, hl with | [_], _ => rfl
  refine ⟨d7, fun s v => b7 s [v] rfl, fun base _ _ => ?_⟩
  have T : Cls22 P w K mg base := cls X G c
  have o0 := ok_tape (P := P) (w := w) (mg := mg) (base := base) F0 g_int g_len
  have o1 := ok_pick (P := P) (w := w) (mg := mg) (base := base) F1 g_int
  have o2 := ok_one (P := P) (w := w) (mg := mg) (base := base) F2 g_len o1 m1 F1.kp b1
  have o3 := ok_any (P := P) (w := w) (mg := mg) (base := base) F3 o2 m2 F2.kp b2
  have o4 := ok_vals F4 (T.v "BadKinds" (by decide +kernel)) (T.v "BadHandles" (by decide +kernel)) (T.v "BadRules" (by decide +kernel)) (T.v "BadStart" (by decide +kernel)) (T.v "BadCount" (by decide +kernel)) (T.v "NoRule" (by decide +kernel)) (T.v "NoKind" (by decide +kernel)) (T.v "BadPrices" (by decide +kernel)) (T.v "BadUntold" (by decide +kernel)) (T.v "BadWeights" (by decide +kernel)) (T.v "BadLetters" (by decide +kernel)) (T.v "BadTimes" (by decide +kernel)) (T.v "BadName" (by decide +kernel)) (T.v "NoThing" (by decide +kernel)) (T.v "NoHolder" (by decide +kernel))
  have o5 := ok_oths F5 (T.o ("BadRule", "number") (by decide +kernel)) (T.o ("NotDone", "number") (by decide +kernel)) (T.o ("BadLine", "line") (by decide +kernel)) (T.o ("NamedTwice", "name") (by decide +kernel)) (T.o ("NoEnd", "name") (by decide +kernel)) (T.o ("NotHeld", "name") (by decide +kernel))
  have o6 := ok_kinds F6 T g_isinstance
  exact ok_law F7 T o0 m0 F0.kp b0 o3 m3 F3.kp b3 o4 m4 F4.kp b4 o5 m5 F5.kp b5 o6 m6 F6.kp b6 g_range g_max g_min g_len g_repr g_isinstance g_ValueError (He.glo_ok X G (c.1.fact 30 (f := .glo "HandleError") rfl))
    (fun y hy => ⟨(exB_ok (ex_at c.2 hy).1).is_, (ex_at c.2 hy).2.2.2⟩) (fun y hy => (ex_at c.2 hy).2.1) (fun y hy => (ex_at c.2 hy).2.2.1)
end
end K1
open PySem PySem.W PySem.Calls PyProof.Rows
theorem PySem.Challenge.cw_farhandles_k01_errors_made_holds : PySem.Challenge.rw_farhandles_k01_errors_made.Holds := by
  w_on; o_law
  refine HandSHeadRun.head_any (r := OpenLaw.row PySem.Challenge.rw_farhandles_k01_errors_made) (q := view (OpenLaw.row PySem.Challenge.rw_farhandles_k01_errors_made).prog [32]) (H := K1.hk) (ob := K1.ob) (M := 9000) (loose := K1.loose) (d := HandSHeadRun.topDef (OpenLaw.row PySem.Challenge.rw_farhandles_k01_errors_made).prog 32) (kwd := []) K1.ob_eq
    (by kernel_rfl) (fun s => by kernel_rfl) K1.run (by kernel_rfl) (by kernel_rfl) (by kernel_rfl) (by rfl) (by first | assumption | decide +kernel) (by decide +kernel) ⟨rfl, rfl, rfl, rfl, rfl, by decide +kernel⟩ ?hw ?hc
  case hw => w_witness2
  case hc =>
    refine Fh.walkG (l := PySem.Challenge.rw_farhandles_k01_errors_made) (k := 4) rfl (by kernel_rfl) ⟨rfl, by decide, by decide⟩ ?F
    intro w mg fa h Y G hmg0
    obtain ⟨K, KX, c⟩ := Y
    have hmg : mg ("law" : PySem.Str) = some (.ref fa) := by
      have e : (HandSHeadRun.topDef (OpenLaw.row PySem.Challenge.rw_farhandles_k01_errors_made).prog 32).name = ("law" : PySem.Str) := by kernel_rfl
      rw [← e]
      exact hmg0
    obtain ⟨fd, hb, hF⟩ := K1.facts (P := (PySem.Challenge.rw_farhandles_k01_errors_made).prog) (w := w) KX G hmg c
    exact ⟨K, fd, KX, hb, hF⟩
